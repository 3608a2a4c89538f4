import PyProof.Rows.All
import Wide.All
import OpenK.AllK
import Wide.FinOn
import HandS.ForExc
import HandS.ForMost
import HandS.IsInst
import HandS.ExcIs
import HandS.Wide
import HandS.CallSlots
import HandS.Property
import HandS.Defaults
import HandS.MakeKwOnly
import HandS.TupAny
import HandS.LawCells
import HandS.Text
import HandS.Iter
import HandS.Replace
import PySem.Challenge.RW_meridian_k04_texts_encoded
set_option Elab.async false
set_option linter.all false
set_option maxRecDepth 100000
set_option maxHeartbeats 4000000
namespace Dv
open PySem PySem.Spec PyProof.Rows L2
def top (i : Nat) : Stmt := PySem.Challenge.pw_meridian_k04_texts_encoded.main.body.getD i (.Pass ⟨0, 0, 0, 0⟩)
abbrev s_encode_number : Stmt := (top 5)
theorem sc_encode_number : FnScope ["number", "block"] ["number"] (defScope s_encode_number) := ⟨rfl, rfl, rfl, by decide +kernel, rfl, by decide +kernel, by decide +kernel⟩
abbrev s_decode_number : Stmt := (top 6)
theorem sc_decode_number : FnScope ["block", "at", "last", "number", "unit", "byte"] ["block", "at"] (defScope s_decode_number) := ⟨rfl, rfl, rfl, by decide +kernel, rfl, by decide +kernel, by decide +kernel⟩
abbrev s__check_index : Stmt := (top 7)
theorem sc__check_index : FnScope ["block", "at"] ["block", "at"] (defScope s__check_index) := ⟨rfl, rfl, rfl, by decide +kernel, rfl, by decide +kernel, by decide +kernel⟩
abbrev s__last_index : Stmt := (top 8)
theorem sc__last_index : FnScope ["block", "at"] ["block", "at"] (defScope s__last_index) := ⟨rfl, rfl, rfl, by decide +kernel, rfl, by decide +kernel, by decide +kernel⟩
abbrev s_encode_text : Stmt := (top 11)
theorem sc_encode_text : FnScope ["text", "block", "character", "code"] ["text"] (defScope s_encode_text) := ⟨rfl, rfl, rfl, by decide +kernel, rfl, by decide +kernel, by decide +kernel⟩
abbrev s_decode_text : Stmt := (top 12)
theorem sc_decode_text : FnScope ["block", "at", "length", "start", "behind", "codes", "code"] ["block", "at"] (defScope s_decode_text) := ⟨rfl, rfl, rfl, by decide +kernel, rfl, by decide +kernel, by decide +kernel⟩
abbrev s_encode_texts : Stmt := (top 13)
theorem sc_encode_texts : FnScope ["texts", "block", "text"] ["texts"] (defScope s_encode_texts) := ⟨rfl, rfl, rfl, by decide +kernel, rfl, by decide +kernel, by decide +kernel⟩
abbrev s_decode_texts : Stmt := (top 14)
theorem sc_decode_texts : FnScope ["block", "at", "many", "behind", "texts", "text"] ["block", "at"] (defScope s_decode_texts) := ⟨rfl, rfl, rfl, by decide +kernel, rfl, by decide +kernel, by decide +kernel⟩
abbrev s__law_cell : Stmt := (top 16)
theorem sc__law_cell : FnScope ["script", "k"] ["script", "k"] (defScope s__law_cell) := ⟨rfl, rfl, rfl, by decide +kernel, rfl, by decide +kernel, by decide +kernel⟩
abbrev s__law_is_int : Stmt := (top 17)
theorem sc__law_is_int : FnScope ["thing"] ["thing"] (defScope s__law_is_int) := ⟨rfl, rfl, rfl, by decide +kernel, rfl, by decide +kernel, by decide +kernel⟩
abbrev s__law_varint : Stmt := (top 18)
theorem sc__law_varint : FnScope ["number", "out"] ["number"] (defScope s__law_varint) := ⟨rfl, rfl, rfl, by decide +kernel, rfl, by decide +kernel, by decide +kernel⟩
abbrev s__law_draws : Stmt := (top 19)
theorem sc__law_draws : FnScope ["cell", "many", "limit", "out", "k", "mixed"] ["cell", "many", "limit"] (defScope s__law_draws) := ⟨rfl, rfl, rfl, by decide +kernel, rfl, by decide +kernel, by decide +kernel⟩
abbrev s__law_block : Stmt := (top 20)
theorem sc__law_block : FnScope ["cell", "many", "number"] ["cell", "many"] (defScope s__law_block) := ⟨rfl, rfl, rfl, by decide +kernel, rfl, by decide +kernel, by decide +kernel⟩
abbrev s__law_code : Stmt := (top 21)
theorem sc__law_code : FnScope ["char"] ["char"] (defScope s__law_code) := ⟨rfl, rfl, rfl, by decide +kernel, rfl, by decide +kernel, by decide +kernel⟩
abbrev s__law_text : Stmt := (top 22)
theorem sc__law_text : FnScope ["cell", "many", "code"] ["cell", "many"] (defScope s__law_text) := ⟨rfl, rfl, rfl, by decide +kernel, rfl, by decide +kernel, by decide +kernel⟩
abbrev s__law_text_block : Stmt := (top 23)
theorem sc__law_text_block : FnScope ["text", "char"] ["text"] (defScope s__law_text_block) := ⟨rfl, rfl, rfl, by decide +kernel, rfl, by decide +kernel, by decide +kernel⟩
abbrev s__law_refused : Stmt := (top 24)
theorem sc__law_refused : FnScope ["which", "thing", "at", "e"] ["which", "thing", "at"] (defScope s__law_refused) := ⟨rfl, rfl, rfl, by decide +kernel, rfl, by decide +kernel, by decide +kernel⟩
abbrev s__law_ends : Stmt := (top 25)
theorem sc__law_ends : FnScope ["actual", "end"] ["actual", "end"] (defScope s__law_ends) := ⟨rfl, rfl, rfl, by decide +kernel, rfl, by decide +kernel, by decide +kernel⟩
abbrev s__law_one : Stmt := (top 26)
theorem sc__law_one : FnScope ["text", "head", "place", "block", "back", "at", "strange", "spoilt"] ["text", "head", "place"] (defScope s__law_one) := ⟨rfl, rfl, rfl, by decide +kernel, rfl, by decide +kernel, by decide +kernel⟩
abbrev s_law : Stmt := (top 27)
theorem sc_law : FnScope ["script", "head", "texts", "k", "many", "block", "text", "back", "cut"] ["script"] (defScope s_law) := ⟨rfl, rfl, rfl, by decide +kernel, rfl, by decide +kernel, by decide +kernel⟩
theorem kit_own {K : PySem.W.Frag} {C E : Addr} {b : Bool} (h : PySem.W.subIn K (.ref C) (.ref E) = some b) (hs : PySem.W.subIn K (.ref C) (.ref C) = some true) (hc : PySem.W.isClsIn K E = true) (ht : PySem.W.typeIn K (.ref E) = some (.type "type")) :
    PySem.W.kitOne K (.ref C) (.ref E) = some b := by
  unfold PySem.W.kitOne
  by_cases e : (Value.ref C == Value.ref E) = true
  · rw [if_pos e]
    have e' : Value.ref C = Value.ref E := by simpa using e
    rw [← e', hs] at h
    exact h
  · rw [if_neg e]
    show (if ((PySem.W.clsIn K E).isSome && PySem.W.typeIn K (.ref E) == some (.type "type")) = true then PySem.W.subIn K (.ref C) (.ref E) else none) = some b
    have hc' : (PySem.W.clsIn K E).isSome = true := hc
    rw [hc', ht, if_pos (by rfl)]
    exact h
theorem kit_ty_sub {K : PySem.W.Frag} {C : Addr} {T : String} {b : Bool} (h : PySem.W.subIn K (.ref C) (.type T) = some b) (hm : PySem.W.kitMeta T = true) : PySem.W.kitOne K (.ref C) (.type T) = some b := by
  unfold PySem.W.kitOne
  rw [if_neg (by simp)]
  show (if PySem.W.kitMeta T = true then PySem.W.subIn K (.ref C) (.type T) else none) = some b
  rw [if_pos hm]
  exact h
/-- isinstance(e, c), isinstance(e, (c1, ..)): e the exception that the suite holds, of whatever class -/
def rIsG (K : PySem.W.Frag) (cls : Value) (d : Option Addr) (a : Addr) : List V → Hp → VK → Prop := fun xs H Q => ∃ (D : Addr) (b : Bool), cls = .ref D ∧ d = none ∧ ExcC K D ∧
  ((∃ (c : V) (cv : Value), xs = [.ref a, c] ∧ ClsV c cv ∧ PySem.W.kitOne K (.ref D) cv = some b ∧ Q (.bl b) H) ∨
   ∃ (tp : Addr) (cs : List V) (us : List Value), xs = [.ref a, .ref tp] ∧ H tp = some (.tup cs) ∧ Paired ClsV cs us ∧ PySem.W.kitAny K (.ref D) us = some b ∧ Q (.bl b) H)
theorem call_isG {X : Cx} {a : Addr} {cls : Value} {d : Option Addr} {oe : Obj} {pn : List (Addr × Obj)} (hz : Zc cls d oe) (hf : ∃ vs, oe.data = .fields vs) : CallR (X.suite a ((a, oe) :: pn)) (.builtin "isinstance") (rIsG X.K cls d a) := by
  intro pins s σ H xs us Q I r h
  obtain ⟨D, b, rfl, rfl, C, h⟩ := h
  rcases h with ⟨c, cv, rfl, hcv, e, q⟩ | ⟨tp, cs, ws, rfl, hT, k, e, q⟩
  · exact call_isE C hz hf pins s σ H _ us Q I r ⟨c, cv, b, rfl, fun u ru => hcv.eq ru, e, q⟩
  · obtain ⟨u1, u2, rfl, r1, r2⟩ := vals2 r
    cases (show u2 = Value.ref tp from r2)
    cases (show u1 = Value.ref a from r1)
    obtain ⟨hget, _⟩ := I.pin (a, oe) (List.mem_append.mpr (.inl List.mem_cons_self))
    obtain ⟨vs, hv⟩ := hf
    have J : PySem.W.InstAt s.heap a oe D none := by
      obtain ⟨oc, od, oda, osl⟩ := oe
      obtain ⟨h1, h2⟩ := hz
      dsimp only at h1 h2 hv
      subst h1 h2 hv
      exact ⟨hget, rfl, rfl, trivial⟩
    obtain ⟨_, its, rv, o, h1, h2, n, h3⟩ := (show ObjOk X.prog X.w H s.heap tp (.tup cs) from I.hok tp _ hT)
    have e3 := ClsV.all k rv
    subst e3
    obtain ⟨oc, od, dt, sl⟩ := o
    simp only at h2 h3
    subst h2 h3
    exact PySem.W.kia_tup (PySem.W.handS_kitx_exc C.hg C.hk C.hs C.hd C.ha C.hn C.ht C.hm) I.kIn J h1 e (fun z => nomatch z) fun tk => ⟨.bl b, H, I.kept (t' := tk) fun _ _ z => z, rfl, q⟩
/-- the room that == of data wants -/
theorem hu64_of {A : Around} {k : Nat} (hr : Room k A) : A.units + 64 < cLine := Nat.lt_of_le_of_lt (Nat.le_refl _) hr.units
theorem same_new {H : Hp} {p : Addr} {o : HO} (h : H p = none) : Same H (upd H p o) := fun b x e => by
  rw [upd_ne (ne_of_none e h)]
  exact e
/-- an object unknown before may change -/
theorem same_mut {H H1 : Hp} {p : Addr} {o : HO} (s : Same H H1) (h : H p = none) : Same H (upd H1 p o) := fun b x e => by
  rw [upd_ne (ne_of_none e h)]
  exact s b x e
theorem sql_new {K : PySem.W.Frag} {H : Hp} {p : Addr} {xs : List V} : SqL K (upd H p (.lst xs)) p xs := SqL.of upd_same
theorem same_dp {K : PySem.W.Frag} {H H' : Hp} (s : Same H H') : ∀ (d : PyData) (v : V), Dp K H v d → Dp K H' v d := by
  intro d v h
  exact Dp.rec (motive_1 := fun v d _ => Dp K H' v d) (motive_2 := fun vs ds _ => DpAll K H' vs ds) .non (fun b => .bl b) (fun i => .int i) (fun x => .str x)
    (fun h1 _ ih => .lst (s.seq h1) ih) (fun h1 _ ih => .tup (by rcases h1 with h1 | h1
                                                                 · rcases h1 with h1 | ⟨o, h1⟩
                                                                   · exact .inl (.inl (s _ _ h1))
                                                                   · exact .inl (.inr ⟨o, s _ _ h1⟩)
                                                                 · exact .inr h1) ih) .nil (fun _ _ h1 h2 => .cons h1 h2) h
/-! lists of ints as data -/
def dInts (ns : List Int) : PyData := .list (ns.map PyData.int)
theorem dp_all_ints {K : PySem.W.Frag} {H : Hp} : ∀ ns : List Int, DpAll K H (ns.map V.int) (ns.map PyData.int)
  | [] => .nil
  | n :: r => .cons (.int n) (dp_all_ints r)
theorem dp_ints {K : PySem.W.Frag} {H : Hp} {a : Addr} {ns : List Int} (h : SqL K H a (ns.map V.int)) : Dp K H (.ref a) (dInts ns) := .lst h (dp_all_ints ns)
theorem eqv_ints : ∀ ns ms : List Int, PyData.eqvAll (ns.map PyData.int) (ms.map PyData.int) = decide (ns = ms)
  | [], [] => rfl
  | [], _ :: _ => rfl
  | _ :: _, [] => rfl
  | n :: r, m :: t => by
    show (PyData.eqv (.int n) (.int m) && PyData.eqvAll (r.map PyData.int) (t.map PyData.int)) = _
    rw [eqv_ints r t]
    show ((n == m) && decide (r = t)) = _
    by_cases h : n = m <;> by_cases h2 : r = t <;> simp [h, h2]
theorem eqv_dInts (ns ms : List Int) : PyData.eqv (dInts ns) (dInts ms) = decide (ns = ms) := eqv_ints ns ms
theorem canLay_ints : ∀ ns : List Int, (PyData.list (ns.map PyData.int)).canLay0 = true → True := fun _ _ => trivial
theorem ifT {c : Bool} {A B : Prop} (hc : c = true) (h : A) : if c = true then A else B := by
  rw [if_pos hc]
  exact h
theorem ifF {c : Bool} {A B : Prop} (hc : c = false) (h : B) : if c = true then A else B := by
  rw [hc, if_neg Bool.false_ne_true]
  exact h
/-- both ways of an if over a decided comparison -/
theorem iteD {p : Prop} [Decidable p] {A B : Prop} (h1 : p → A) (h2 : ¬ p → B) : if decide p = true then A else B := by
  by_cases h : p
  · rw [if_pos (decide_eq_true h)]
    exact h1 h
  · rw [if_neg (by simpa using h)]
    exact h2 h
theorem iteN {p : Prop} [Decidable p] {A B : Prop} (h1 : ¬ p → A) (h2 : p → B) : if (!decide p) = true then A else B := by
  by_cases h : p
  · rw [if_neg (by simpa using h)]
    exact h2 h
  · rw [if_pos (by simpa using h)]
    exact h1 h
theorem yes_if {σ : L2.St} {H : Hp} {A B : Hp → Prop} (h : A H) : tYes σ H (fun b H3 => if b = true then A H3 else B H3) := by
  show (if true = true then A H else B H)
  rw [if_pos rfl]
  exact h
abbrev Li (H : Hp) (p : Addr) (ns : List Int) : Prop := H p = some (.lst (ns.map V.int))
theorem szl {n : Nat} (h : n ≤ 1000000) : n < sizeLine := Nat.lt_of_le_of_lt h (by decide)
theorem szle {n : Nat} (h : n ≤ 1000000) : n ≤ sizeLine := Nat.le_of_lt (szl h)
theorem mem_int {ns : List Int} {i : Nat} {x : V} (hx : (ns.map V.int)[i]? = some x) : ∃ n, ns[i]? = some n ∧ x = V.int n := by
  rw [List.getElem?_map] at hx
  cases e : ns[i]? with
  | none => rw [e] at hx; cases hx
  | some u => rw [e] at hx; exact ⟨u, rfl, (Option.some.inj hx).symm⟩
theorem li_push {H : Hp} {p : Addr} {ns : List Int} {n : Int} : Li (upd H p (.lst (ns.map V.int ++ [V.int n]))) p (ns ++ [n]) := by
  show upd _ _ _ _ = _
  rw [upd_same, List.map_append]
  rfl
theorem take_succ {α : Type} {l : List α} {i : Nat} {x : α} (h : l[i]? = some x) : l.take (i + 1) = l.take i ++ [x] := by
  rw [List.take_add_one, h]
  rfl
/-! slices of lists -/
theorem cutV_map {α : Type} (f : α → V) (xs : List α) (lo hi : Option Int) : cutV (xs.map f) lo hi = ((xs.drop (HT.sIx xs.length 0 lo)).take (HT.sIx xs.length xs.length hi - HT.sIx xs.length 0 lo)).map f := by
  unfold cutV
  rw [List.length_map, List.map_take, List.map_drop]
theorem cut_to (xs : List V) (k : Nat) : cutV xs none (some (k : Int)) = xs.take k := by
  unfold cutV
  rw [HT.sIx_none, HT.sIx_nat, List.drop_zero, Nat.sub_zero]
  by_cases h : k ≤ xs.length
  · rw [Nat.min_eq_left h]
  · rw [Nat.min_eq_right (by omega), List.take_of_length_le (Nat.le_refl _), List.take_of_length_le (by omega)]
theorem cut_from (xs : List V) (k : Nat) : cutV xs (some (k : Int)) none = xs.drop k := by
  unfold cutV
  rw [HT.sIx_none, HT.sIx_nat]
  by_cases h : k ≤ xs.length
  · rw [Nat.min_eq_left h]
    exact List.take_of_length_le (by rw [List.length_drop]; exact Nat.le_refl _)
  · rw [Nat.min_eq_right (by omega), List.drop_of_length_le (by omega), List.take_nil, List.drop_of_length_le (by omega)]
theorem cut_fromto (xs : List V) (i j : Nat) : cutV xs (some (i : Int)) (some (j : Int)) = (xs.drop i).take (j - i) := by
  unfold cutV
  rw [HT.sIx_nat, HT.sIx_nat]
  by_cases h : i ≤ xs.length
  · rw [Nat.min_eq_left h]
    by_cases h2 : j ≤ xs.length
    · rw [Nat.min_eq_left h2]
    · rw [Nat.min_eq_right (by omega), List.take_of_length_le (by rw [List.length_drop]; exact Nat.le_refl _), List.take_of_length_le (by rw [List.length_drop]; omega)]
  · rw [show xs.drop (min i xs.length) = [] from List.drop_of_length_le (by omega), List.take_nil, List.drop_of_length_le (by omega), List.take_nil]
theorem sIx_neg (n d k : Nat) (h : 0 < k) : HT.sIx n d (some (-(k : Int))) = n - k := by
  show (if -(k : Int) < 0 then (-(k : Int) + (n : Int)).toNat else _) = _
  rw [if_pos (by omega)]
  omega
theorem cut_ton (xs : List V) (k : Nat) (h : 0 < k) : cutV xs none (some (-(k : Int))) = xs.take (xs.length - k) := by
  unfold cutV
  rw [HT.sIx_none, sIx_neg _ _ _ h, List.drop_zero, Nat.sub_zero]
theorem cut_fromn (xs : List V) (k : Nat) (h : 0 < k) : cutV xs (some (-(k : Int))) none = xs.drop (xs.length - k) := by
  unfold cutV
  rw [HT.sIx_none, sIx_neg _ _ _ h]
  exact List.take_of_length_le (by rw [List.length_drop]; exact Nat.le_refl _)

/-! own rules: methods and makings whose errors depend on the slots (for a try), keywords, an own __contains__ -/
section
variable {X : Cx} {CX : CXT} {k n : Nat} {C f : Addr} {fd : FuncData} {ps ks : List Str} {sp : Sp} {E : L2.St → XK} {dvs : List V} {ds : List Value} {o e : Expr} {es : List Expr} {kws : List Keyword} {m x : Str} {p apos pos : Pos} {ta : TE} {t tk : TA}
  {g : List Value → List Value → List Value} {gV : List V → List V → List V}
theorem run_at {pins : List (Addr × Obj)} {σ : L2.St} {H : Hp} {s : Shared} {Q : VK} {E : XK} {us0 us : List Value} {kw : List (Str × Value)} {vs : List V} (F : FnOk X.prog X.w X.K X.mg X.base CX k f fd ps sp) (hr : Room k X.A) (hx : PassesAt CX X σ E)
    (I : Inv X pins σ H s) (hb : BindsTo s fd ⟨us0, kw⟩ (ps.zip us)) (r : Vals vs us) (h : sp vs H Q E) : wpAny (model X.prog X.w) X.A (call (.ref f) us0 kw) (EP X pins σ Q) X.xe s := by
  refine wpAny_call (codeAny_mono (F.run X.A X.stack s H ⟨us0, kw⟩ us vs Q E hr I.env0 hb r h) fun r s' hq => ?_)
  cases r with
  | error er => exact hx pins H s er s' I hq
  | ok fl => cases fl with
    | ret u => exact I.after hq
    | next => exact hq.elim
    | brk => exact hq.elim
    | cont => exact hq.elim
/-- o.m(e, .., k = v, ..) -/
def tMA (C : Addr) (m : Str) (n l : Nat) (sp : Sp) (gV : List V → List V → List V) (E : L2.St → XK) (ta : TE) (t tk : TA) : TE := fun σ H Q => ta σ H fun x H1 => ∃ a dx fs, x = .ref a ∧ H1 a = some (.ins C dx fs) ∧ fs.lookup m = none ∧
  t σ H1 fun vs H2 => tk σ H2 fun zs H3 => vs.length = n ∧ zs.length = l ∧ sp (gV (x :: vs) zs) H3 Q (E σ)
theorem pe_mK {pl : Sem Bool} (he : PE X o ta) (c : Cls X.K C) (hm : Meth X.K C m f) (F : FnOk X.prog X.w X.K X.mg X.base CX k f fd ps sp) (hr : Room k X.A) (hb : KBn X.K fd ps (n + 1) ks g gV) (hx : ∀ σ, PassesAt CX X σ (E σ)) (ha : PA X (e :: es) t) (hkw : PK X kws tk)
    (hall : (backToKw pos (keywordEach kws X.env)).all (·.1.isSome) = true := by rfl) (hks : (backToKw pos (keywordEach kws X.env)).filterMap (·.1) = ks := by rfl)
    (hst : starEach (e :: es) X.env = (false, eval e X.env) :: starEach es X.env := by rfl) (hpl : ((backTo pos (starEach (e :: es) X.env)).any (·.1) || (backToKw pos (keywordEach kws X.env)).any (·.1.isNone)) = false := by rfl)
    (ht : eval (.Call (.Attribute o m apos) (e :: es) kws pos) X.env = (do
      let ov ← eval o X.env
      standAt apos.atName
      let (f, first) ← holding [ov] (getMethod ov m pl)
      callWith pos f first (backTo pos (starEach (e :: es) X.env)) (backToKw pos (keywordEach kws X.env))) := by rfl) :
    PE X (.Call (.Attribute o m apos) (e :: es) kws pos) (tMA C m n ks.length sp gV E ta t tk) := by
  refine ⟨fun pins s σ H Q I h => PySem.W.methodCall_KW (pl := pl) (thn (he.run pins s σ H _ I h) fun u s1 ⟨x, H1, I1, rx, a, dx, fs, ex, ea, l, q⟩ => ?_) ht⟩
  subst ex
  obtain rfl : u = Value.ref a := rx
  refine getmeth_ok I1 ea c hm l (PySem.W.callWith_KW (first := [.ref a]) (h₀ := X.base) I.ok.mod.kin hm.kp hall (thn (ha.run pos pins s1 σ H1 _ I1 q) fun us s2 ⟨vs, H2, I2, r, q2⟩ => ?_) hpl hst)
  refine thn (hkw.run pos pins s2 σ H2 _ I2 q2) fun ws s3 ⟨zs, H3, I3, rz, l1, l2, q3⟩ => ⟨I3.kIn, ?_⟩
  rw [hks]
  have r1 : Vals (V.ref a :: vs) (Value.ref a :: us) := .cons rfl r
  exact run_at F hr (hx σ) I3 (hb.to s3 (Value.ref a :: us) ws I3.kIn (by rw [List.length_cons, ← r.length, l1]) (rz.length.symm.trans l2)) (hb.rel r1 rz) q3
theorem pe_mK0 {pl : Sem Bool} (he : PE X o ta) (c : Cls X.K C) (hm : Meth X.K C m f) (F : FnOk X.prog X.w X.K X.mg X.base CX k f fd ps sp) (hr : Room k X.A) (hb : KBn X.K fd ps 1 ks g gV) (hx : ∀ σ, PassesAt CX X σ (E σ)) (hkw : PK X kws tk)
    (hall : (backToKw pos (keywordEach kws X.env)).all (·.1.isSome) = true := by rfl) (hks : (backToKw pos (keywordEach kws X.env)).filterMap (·.1) = ks := by rfl)
    (hpl : ((backTo pos (starEach [] X.env)).any (·.1) || (backToKw pos (keywordEach kws X.env)).any (·.1.isNone)) = false := by rfl)
    (ht : eval (.Call (.Attribute o m apos) [] kws pos) X.env = (do
      let ov ← eval o X.env
      standAt apos.atName
      let (f, first) ← holding [ov] (getMethod ov m pl)
      callWith pos f first (backTo pos (starEach [] X.env)) (backToKw pos (keywordEach kws X.env))) := by rfl) :
    PE X (.Call (.Attribute o m apos) [] kws pos) (tMA C m 0 ks.length sp gV E ta tNil tk) := by
  refine ⟨fun pins s σ H Q I h => PySem.W.methodCall_KW (pl := pl) (thn (he.run pins s σ H _ I h) fun u s1 ⟨x, H1, I1, rx, a, dx, fs, ex, ea, l, q⟩ => ?_) ht⟩
  subst ex
  obtain rfl : u = Value.ref a := rx
  refine getmeth_ok I1 ea c hm l (PySem.W.callWith_KW0 (first := [.ref a]) (h₀ := X.base) I.ok.mod.kin hm.kp hall (thn (hkw.run pos pins s1 σ H1 _ I1 q) fun ws s3 ⟨zs, H3, I3, rz, l1, l2, q3⟩ => ⟨I3.kIn, ?_⟩) hpl)
  rw [hks]
  have r1 : Vals ([V.ref a]) ([Value.ref a]) := .cons rfl .nil
  exact run_at F hr (hx σ) I3 (hb.to s3 [Value.ref a] ws I3.kIn rfl (rz.length.symm.trans l2)) (hb.rel r1 rz) q3
/-- o.m(e, ..), the wish of errors by the slots -/
def tMS (C : Addr) (m : Str) (sp : Sp) (dvs : List V) (E : L2.St → XK) (ta : TE) (t : TA) : TE := fun σ H Q => ta σ H fun x H1 => ∃ a dx fs, x = .ref a ∧ H1 a = some (.ins C dx fs) ∧ fs.lookup m = none ∧ t σ H1 fun vs H2 => sp (x :: (vs ++ dvs)) H2 Q (E σ)
theorem pe_mS {pl : Sem Bool} (he : PE X o ta) (c : Cls X.K C) (hm : Meth X.K C m f) (F : FnOk X.prog X.w X.K X.mg X.base CX k f fd ps sp) (hr : Room k X.A) (hb : Binds X.K fd ps ds) (hd : Vals dvs ds) (hx : ∀ σ, PassesAt CX X σ (E σ)) (ha : PA X (e :: es) t)
    (hst : starEach (e :: es) X.env = (false, eval e X.env) :: starEach es X.env := by rfl) (hpl : (backTo pos (starEach es X.env)).any (·.1) = false := by rfl)
    (ht : eval (.Call (.Attribute o m apos) (e :: es) [] pos) X.env = (do
      let ov ← eval o X.env
      standAt apos.atName
      let (f, first) ← holding [ov] (getMethod ov m pl)
      callWith pos f first (backTo pos (starEach (e :: es) X.env)) (backToKw pos (keywordEach [] X.env))) := by rfl) :
    PE X (.Call (.Attribute o m apos) (e :: es) [] pos) (tMS C m sp dvs E ta t) := by
  refine ⟨fun pins s σ H Q I h => PySem.W.methodCall_KW (pl := pl) (thn (he.run pins s σ H _ I h) fun u s1 ⟨x, H1, I1, rx, a, dx, fs, ex, ea, l, q⟩ => ?_) ht⟩
  subst ex
  obtain rfl : u = Value.ref a := rx
  refine getmeth_ok I1 ea c hm l (PySem.W.callWith_K (first := [.ref a]) (h₀ := X.base) I.ok.mod.kin hm.kp (thn (ha.run pos pins s1 σ H1 _ I1 q) fun us s2 ⟨vs, H2, I2, r, q2⟩ => ⟨I2.kIn, ?_⟩) hst hpl)
  have r2 : Vals (V.ref a :: (vs ++ dvs)) (Value.ref a :: us ++ ds) := .cons rfl (r.append hd)
  have hl : (Value.ref a :: us ++ ds).length = ps.length := by rw [← r2.length]; exact F.len _ _ _ _ q2
  exact run_at (us0 := Value.ref a :: us) F hr (hx σ) I2 (hb s2 (Value.ref a :: us) I2.kIn hl) r2 q2
theorem pe_mS0 {pl : Sem Bool} (he : PE X o ta) (c : Cls X.K C) (hm : Meth X.K C m f) (F : FnOk X.prog X.w X.K X.mg X.base CX k f fd ps sp) (hr : Room k X.A) (hb : Binds X.K fd ps ds) (hd : Vals dvs ds) (hx : ∀ σ, PassesAt CX X σ (E σ))
    (ht : eval (.Call (.Attribute o m apos) [] [] pos) X.env = (do
      let ov ← eval o X.env
      standAt apos.atName
      let (f, first) ← holding [ov] (getMethod ov m pl)
      callWith pos f first (backTo pos (starEach [] X.env)) (backToKw pos (keywordEach [] X.env))) := by rfl) :
    PE X (.Call (.Attribute o m apos) [] [] pos) (tMS C m sp dvs E ta tNil) := by
  refine ⟨fun pins s σ H Q I h => PySem.W.methodCall_KW (pl := pl) (thn (he.run pins s σ H _ I h) fun u s1 ⟨x, H1, I1, rx, a, dx, fs, ex, ea, l, q⟩ => ?_) ht⟩
  subst ex
  obtain rfl : u = Value.ref a := rx
  have r2 : Vals (V.ref a :: ([] ++ dvs)) (Value.ref a :: [] ++ ds) := .cons rfl hd
  have hl : (Value.ref a :: [] ++ ds).length = ps.length := by rw [← r2.length]; exact F.len _ _ _ _ q
  refine getmeth_ok I1 ea c hm l (PySem.W.callWith_K0 (first := [.ref a]) I1.kIn hm.kp (run_at (us0 := [Value.ref a]) F hr (hx σ) I1 (hb s1 [Value.ref a] I1.kIn hl) r2 q))
/-- C(e, ..), the wish of errors by the slots -/
def tKS (C : Addr) (sp : Sp) (dvs : List V) (E : L2.St → XK) (t : TA) : TE := fun σ H Q => t σ H fun vs H1 => ∀ x dx, H1 x = none → H1 dx = none → dx ≠ x →
  sp (.ref x :: (vs ++ dvs)) (upd (upd H1 dx (.own x)) x (.ins C dx [])) (fun v H2 => v = .non ∧ Q (.ref x) H2) (E σ)
theorem pe_kS (M : Mk X.K C f) (F : FnOk X.prog X.w X.K X.mg X.base CX k f fd ps sp) (hr : Room (k + 1) X.A) (hg : Gl X x) (hm : X.mg x = some (.ref C)) (hb : Binds X.K fd ps ds) (hd : Vals dvs ds) (hx : ∀ σ, PassesAt CX X σ (E σ)) (ha : PA X (e :: es) t)
    (hdb : (x == ("__debug__" : Str)) = false := by decide) (he : starEach (e :: es) X.env = (false, eval e X.env) :: starEach es X.env := by rfl) (hpl : (backTo pos (starEach es X.env)).any (·.1) = false := by rfl) :
    PE X (.Call (.Name x p) (e :: es) [] pos) (tKS C sp dvs E t) := by
  refine ⟨fun pins s σ H Q I h => wpAny_Call_Name_kw (ld_glob I hg hm (PySem.W.callWith_K (h₀ := X.base) I.ok.mod.kin M.kp (thn (ha.run pos pins s σ H _ I h) fun us s1 ⟨vs, H1, I1, r, q⟩ => ⟨I1.kIn, ?_⟩) he hpl) hdb)⟩
  have hq := q (s1.heap.objs.size + 1) s1.heap.objs.size (I1.hok.fresh (Nat.le_succ _)) (I1.hok.fresh (Nat.le_refl _)) (Nat.ne_of_lt (Nat.lt_succ_self _))
  have I2 := Inv.made (C := C) I1
  have r2 : Vals (V.ref (s1.heap.objs.size + 1) :: (vs ++ dvs)) (Value.ref (s1.heap.objs.size + 1) :: us ++ ds) := .cons rfl (r.append hd)
  have hl : (Value.ref (s1.heap.objs.size + 1) :: us ++ ds).length = ps.length := by rw [← r2.length]; exact F.len _ _ _ _ hq
  refine wpAny_call (make_map (f := f) I1.kIn M.makes M.init (beq_iff_eq.mp M.fn) (codeAny_mono (F.run _ X.stack _ _ ⟨Value.ref (s1.heap.objs.size + 1) :: us, []⟩ (Value.ref (s1.heap.objs.size + 1) :: us ++ ds) _ _ (E σ) (hr.make C us [])
    (I2.env0.make C us []) (hb _ (Value.ref (s1.heap.objs.size + 1) :: us) I2.kIn hl) r2 hq) fun r s' hz => ?_))
  cases r with
  | error er => exact hx σ pins _ _ er s' I2 hz
  | ok fl => cases fl with
    | ret u =>
      obtain ⟨v, H', I3, rv, ev, q3⟩ := I2.after hz
      subst ev
      exact ⟨rv, ⟨V.ref (s1.heap.objs.size + 1), H', I3, rfl, q3⟩⟩
    | next => exact hz.elim
    | brk => exact hz.elim
    | cont => exact hz.elim
theorem passAll {X : Cx} (σ : L2.St) : PassesAt (L2.CX X.prog X.w) X σ E0 := fun pins H s er s' I h => passL pins σ H s er s' I h
/-- y in o, o of a class with its own __contains__ -/
def rInOwn (C : Addr) (sp : Sp) (E : XK) (neg : Bool) : R2 := fun y x H Q => ∃ a dx fs, x = .ref a ∧ H a = some (.ins C dx fs) ∧ sp [.ref a, y] H (fun v H' => ∃ b : Bool, v = .bl b ∧ Q (.bl (b != neg)) H') E
theorem has_own {pins : List (Addr × Obj)} {σ : L2.St} {H : Hp} {s : Shared} {E : XK} {a dx : Addr} {fs : List (Str × V)} {y : V} {v : Value} {Q : Bool → Hp → Prop} (c : Cls X.K C) (hm : Meth X.K C "__contains__" f) (F : FnOk X.prog X.w X.K X.mg X.base CX k f fd ps sp) (hr : Room k X.A)
    (hb : Binds X.K fd ps []) (hx : Passes CX X E) (I : Inv X pins σ H s) (ea : H a = some (.ins C dx fs)) (ry : RelV y v) (h : sp [.ref a, y] H (fun z H' => ∃ b : Bool, z = .bl b ∧ Q b H') E) :
    wpAny (model X.prog X.w) X.A (contains (.ref a) v) (fun b s' => ∃ H', Inv X pins σ H' s' ∧ Q b H') X.xe s := by
  obtain ⟨mA, O, _⟩ := ins_get I.hok ea
  obtain ⟨od, J, _⟩ := O.look
  unfold contains
  refine wpAny_holding (wpAny_bind (wpAny_bind (J.type.here ((PySem.W.looks_findIn I.kIn hm.at_).here ?_))))
  rw [if_neg (by simp)]
  refine wpAny_bind (PySem.W.unlessNone_K I.kIn J hm.at_ hm.fn (wpAny_mono (run_fn (us := [.ref a, v]) (vs := [.ref a, y]) F hr hb .nil hx I (.cons rfl (.cons ry .nil)) h) (fun u s' hu => ?_) fun _ _ z => z))
  obtain ⟨z, H', I', rz, b, rfl, q⟩ := hu
  obtain rfl : u = Value.bool b := rz
  exact wpAny_truthy_bool ⟨H', I', q⟩
theorem op_inOwn {E : XK} (c : Cls X.K C) (hm : Meth X.K C "__contains__" f) (F : FnOk X.prog X.w X.K X.mg X.base CX k f fd ps sp) (hr : Room k X.A) (hb : Binds X.K fd ps []) (hx : Passes CX X E) : OpR X (compareOp .In) (rInOwn C sp E false) := by
  intro pins s σ H y x v u Q I ry rx h
  obtain ⟨a, dx, fs, rfl, ea, h⟩ := h
  obtain rfl : u = Value.ref a := rx
  refine wpAny_bind (wpAny_mono (has_own (Q := fun b H' => Q (.bl b) H') c hm F hr hb hx I ea ry (by simpa using h)) (fun b s' hz => ?_) fun _ _ z => z)
  obtain ⟨H', I', q⟩ := hz
  exact wpAny_pure ⟨.bl b, H', I', rfl, q⟩
theorem op_notInOwn {E : XK} (c : Cls X.K C) (hm : Meth X.K C "__contains__" f) (F : FnOk X.prog X.w X.K X.mg X.base CX k f fd ps sp) (hr : Room k X.A) (hb : Binds X.K fd ps []) (hx : Passes CX X E) : OpR X (compareOp .NotIn) (rInOwn C sp E true) := by
  intro pins s σ H y x v u Q I ry rx h
  obtain ⟨a, dx, fs, rfl, ea, h⟩ := h
  obtain rfl : u = Value.ref a := rx
  refine wpAny_bind (wpAny_mono (has_own (Q := fun b H' => Q (.bl (!b)) H') c hm F hr hb hx I ea ry (by simpa using h)) (fun b s' hz => ?_) fun _ _ z => z)
  obtain ⟨H', I', q⟩ := hz
  exact wpAny_pure ⟨.bl (!b), H', I', rfl, q⟩
end
/-! the same rules with K named (in comprehensions and trys the context is a bound one) -/
section
variable {X : Cx} {K : PySem.W.Frag}
theorem pe_fldK {e : Expr} {ta : TE} {f : Str} {pos : Pos} (h : X.K = K) (he : PE X e ta) (hb : attributeBase e f X.env (eval e X.env) = eval e X.env) : PE X (.Attribute e f pos) (tFld K ta f) := h ▸ pe_fld he hb
theorem ixK {r : PySem.W.Frag → V → V → Hp → VK → Prop} (h : X.K = K) (q : IxR X (r X.K)) : IxR X (r K) := h ▸ q
theorem slK {r : PySem.W.Frag → V → Option Int → Option Int → Hp → VK → Prop} (h : X.K = K) (q : SlR X (r X.K)) : SlR X (r K) := h ▸ q
theorem opK {f : Value → Value → Sem Value} {r : PySem.W.Frag → R2} (h : X.K = K) (q : OpR X f (r X.K)) : OpR X f (r K) := h ▸ q
theorem callK {v : Value} {r : PySem.W.Frag → List V → Hp → VK → Prop} (h : X.K = K) (q : CallR X v (r X.K)) : CallR X v (r K) := h ▸ q
def rLenK (K : PySem.W.Frag) : List V → Hp → VK → Prop := fun xs H Q => ∃ x n, xs = [x] ∧ LenV K x H n ∧ Q (.int n) H
def rListK (K : PySem.W.Frag) : List V → Hp → VK → Prop := fun xs H Q => ∃ p ys, xs = [.ref p] ∧ (SqL K H p ys ∨ SqT K H p ys) ∧ ∀ l, H l = none → Q (.ref l) (upd H l (.lst ys))
end
/-- what the top says of an own class without errors -/
structure ClsT (K : PySem.W.Frag) (mg : Str → Option Value) (nm : Str) (C : Addr) : Prop where
  cl : Cls K C
  mgC : mg nm = some (.ref C)
  ha : PySem.W.findIn K (.ref C) "__class__" = some (some (.builtin "object.__class__"))
  hn : PySem.W.specialIn K (.builtin "object.__class__") "__get__" = some (some (.builtin "getset_descriptor.__get__"))
  ht : PySem.W.takesIn K (.builtin "object.__class__") = some true
  hm : PySem.W.mroIn K C (.type "object") = some true
theorem kit_self {K : PySem.W.Frag} {t : Value} (h : (t == t) = true) : PySem.W.kitOne K t t = some true := by
  unfold PySem.W.kitOne
  rw [if_pos h]
theorem ClsT.ty {K : PySem.W.Frag} {mg : Str → Option Value} {nm : Str} {C : Addr} (c : ClsT K mg nm C) {H : Hp} {a dx : Addr} {fs : List (Str × V)} (e : H a = some (.ins C dx fs)) : TyX K H (.ref a) (.ref C) := .base (.ins e c.cl c.ha c.hn c.ht c.hm)
/-! one rule or another, by the proof's choice -/
theorem pe_either {X : Cx} {e : Expr} {t1 t2 : TE} (h1 : PE X e t1) (h2 : PE X e t2) : PE X e (fun σ H Q => t1 σ H Q ∨ t2 σ H Q) := ⟨fun pins s σ H Q I h => h.elim (h1.run pins s σ H Q I) (h2.run pins s σ H Q I)⟩
def iSeq (K : PySem.W.Frag) (tl : TE) : TI := fun σ H R => iList K tl σ H R ∨ iTup K tl σ H R
theorem pi_seq {X : Cx} {tg l : Expr} {tl : TE} (h : PE X l tl) : PI X tg l (iSeq X.K tl) := ⟨fun pins s σ H R I h' => h'.elim ((pi_list h).run pins s σ H R I) ((pi_tup h).run pins s σ H R I)⟩

structure ExcT (K : PySem.W.Frag) (mg : Str → Option Value) (nm : Str) (C : Addr) : Prop where
  gC : mg nm = some (.ref C)
  xP : PySem.W.excIn K C [.type "ValueError", .type "Exception", .type "BaseException", .type "object"] "ValueError.__new__" = true
  kC : PySem.W.keepIn K (.ref C) = true
  bP : PySem.W.subIn K (.ref C) (.type "BaseException") = some true
  tP : PySem.W.typeIn K (.ref C) = some (.type "type")
  iP : PySem.W.isClsIn K C = true
  cP : ExcC K C
  vP : PySem.W.kitOne K (.ref C) (.type "ValueError") = some true
structure Env (K : PySem.W.Frag) (mg : Str → Option Value) where
  c_MeridianError : Addr
  c_BadArgument : Addr
  c_BadBytes : Addr
  a_encode_number : Addr
  d_encode_number : FuncData
  a_decode_number : Addr
  d_decode_number : FuncData
  a__check_index : Addr
  d__check_index : FuncData
  a__last_index : Addr
  d__last_index : FuncData
  a_encode_text : Addr
  d_encode_text : FuncData
  a_decode_text : Addr
  d_decode_text : FuncData
  a_encode_texts : Addr
  d_encode_texts : FuncData
  a_decode_texts : Addr
  d_decode_texts : FuncData
  a__law_cell : Addr
  d__law_cell : FuncData
  a__law_is_int : Addr
  d__law_is_int : FuncData
  a__law_varint : Addr
  d__law_varint : FuncData
  a__law_draws : Addr
  d__law_draws : FuncData
  a__law_block : Addr
  d__law_block : FuncData
  a__law_code : Addr
  d__law_code : FuncData
  a__law_text : Addr
  d__law_text : FuncData
  a__law_text_block : Addr
  d__law_text_block : FuncData
  a__law_refused : Addr
  d__law_refused : FuncData
  a__law_ends : Addr
  d__law_ends : FuncData
  a__law_one : Addr
  d__law_one : FuncData
  a_law : Addr
  d_law : FuncData
  F_encode_number : Fun K "encode_number" "encode_number" s_encode_number a_encode_number d_encode_number
  b_encode_number : Binds K d_encode_number ["number"] []
  g_encode_number : mg "encode_number" = some (.ref a_encode_number)
  F_decode_number : FunD K "decode_number" "decode_number" (defArgs s_decode_number) (defBody s_decode_number) (defScope s_decode_number) [.int 0] [] a_decode_number d_decode_number
  w1_decode_number : List Value
  v1_decode_number : Vals [.int 0] w1_decode_number
  b1_decode_number : Binds K d_decode_number ["block", "at"] w1_decode_number
  w2_decode_number : List Value
  v2_decode_number : Vals [] w2_decode_number
  b2_decode_number : Binds K d_decode_number ["block", "at"] w2_decode_number
  g_decode_number : mg "decode_number" = some (.ref a_decode_number)
  F__check_index : Fun K "_check_index" "_check_index" s__check_index a__check_index d__check_index
  b__check_index : Binds K d__check_index ["block", "at"] []
  g__check_index : mg "_check_index" = some (.ref a__check_index)
  F__last_index : Fun K "_last_index" "_last_index" s__last_index a__last_index d__last_index
  b__last_index : Binds K d__last_index ["block", "at"] []
  g__last_index : mg "_last_index" = some (.ref a__last_index)
  F_encode_text : Fun K "encode_text" "encode_text" s_encode_text a_encode_text d_encode_text
  b_encode_text : Binds K d_encode_text ["text"] []
  g_encode_text : mg "encode_text" = some (.ref a_encode_text)
  F_decode_text : FunD K "decode_text" "decode_text" (defArgs s_decode_text) (defBody s_decode_text) (defScope s_decode_text) [.int 0] [] a_decode_text d_decode_text
  w1_decode_text : List Value
  v1_decode_text : Vals [.int 0] w1_decode_text
  b1_decode_text : Binds K d_decode_text ["block", "at"] w1_decode_text
  w2_decode_text : List Value
  v2_decode_text : Vals [] w2_decode_text
  b2_decode_text : Binds K d_decode_text ["block", "at"] w2_decode_text
  g_decode_text : mg "decode_text" = some (.ref a_decode_text)
  F_encode_texts : Fun K "encode_texts" "encode_texts" s_encode_texts a_encode_texts d_encode_texts
  b_encode_texts : Binds K d_encode_texts ["texts"] []
  g_encode_texts : mg "encode_texts" = some (.ref a_encode_texts)
  F_decode_texts : FunD K "decode_texts" "decode_texts" (defArgs s_decode_texts) (defBody s_decode_texts) (defScope s_decode_texts) [.int 0] [] a_decode_texts d_decode_texts
  w1_decode_texts : List Value
  v1_decode_texts : Vals [.int 0] w1_decode_texts
  b1_decode_texts : Binds K d_decode_texts ["block", "at"] w1_decode_texts
  w2_decode_texts : List Value
  v2_decode_texts : Vals [] w2_decode_texts
  b2_decode_texts : Binds K d_decode_texts ["block", "at"] w2_decode_texts
  g_decode_texts : mg "decode_texts" = some (.ref a_decode_texts)
  F__law_cell : Fun K "_law_cell" "_law_cell" s__law_cell a__law_cell d__law_cell
  b__law_cell : Binds K d__law_cell ["script", "k"] []
  g__law_cell : mg "_law_cell" = some (.ref a__law_cell)
  F__law_is_int : Fun K "_law_is_int" "_law_is_int" s__law_is_int a__law_is_int d__law_is_int
  b__law_is_int : Binds K d__law_is_int ["thing"] []
  g__law_is_int : mg "_law_is_int" = some (.ref a__law_is_int)
  F__law_varint : Fun K "_law_varint" "_law_varint" s__law_varint a__law_varint d__law_varint
  b__law_varint : Binds K d__law_varint ["number"] []
  g__law_varint : mg "_law_varint" = some (.ref a__law_varint)
  F__law_draws : Fun K "_law_draws" "_law_draws" s__law_draws a__law_draws d__law_draws
  b__law_draws : Binds K d__law_draws ["cell", "many", "limit"] []
  g__law_draws : mg "_law_draws" = some (.ref a__law_draws)
  F__law_block : Fun K "_law_block" "_law_block" s__law_block a__law_block d__law_block
  b__law_block : Binds K d__law_block ["cell", "many"] []
  g__law_block : mg "_law_block" = some (.ref a__law_block)
  F__law_code : Fun K "_law_code" "_law_code" s__law_code a__law_code d__law_code
  b__law_code : Binds K d__law_code ["char"] []
  g__law_code : mg "_law_code" = some (.ref a__law_code)
  F__law_text : Fun K "_law_text" "_law_text" s__law_text a__law_text d__law_text
  b__law_text : Binds K d__law_text ["cell", "many"] []
  g__law_text : mg "_law_text" = some (.ref a__law_text)
  F__law_text_block : Fun K "_law_text_block" "_law_text_block" s__law_text_block a__law_text_block d__law_text_block
  b__law_text_block : Binds K d__law_text_block ["text"] []
  g__law_text_block : mg "_law_text_block" = some (.ref a__law_text_block)
  F__law_refused : Fun K "_law_refused" "_law_refused" s__law_refused a__law_refused d__law_refused
  b__law_refused : Binds K d__law_refused ["which", "thing", "at"] []
  g__law_refused : mg "_law_refused" = some (.ref a__law_refused)
  F__law_ends : Fun K "_law_ends" "_law_ends" s__law_ends a__law_ends d__law_ends
  b__law_ends : Binds K d__law_ends ["actual", "end"] []
  g__law_ends : mg "_law_ends" = some (.ref a__law_ends)
  F__law_one : Fun K "_law_one" "_law_one" s__law_one a__law_one d__law_one
  b__law_one : Binds K d__law_one ["text", "head", "place"] []
  g__law_one : mg "_law_one" = some (.ref a__law_one)
  F_law : Fun K "law" "law" s_law a_law d_law
  b_law : Binds K d_law ["script"] []
  e_MeridianError : ExcT K mg "MeridianError" c_MeridianError
  u_MeridianError_MeridianError : PySem.W.exmOne K (.ref c_MeridianError) (.ref c_MeridianError) = some true
  q_MeridianError_MeridianError : PySem.W.kitOne K (.ref c_MeridianError) (.ref c_MeridianError) = some true
  u_MeridianError_BadArgument : PySem.W.exmOne K (.ref c_MeridianError) (.ref c_BadArgument) = some false
  q_MeridianError_BadArgument : PySem.W.kitOne K (.ref c_MeridianError) (.ref c_BadArgument) = some false
  u_MeridianError_BadBytes : PySem.W.exmOne K (.ref c_MeridianError) (.ref c_BadBytes) = some false
  q_MeridianError_BadBytes : PySem.W.kitOne K (.ref c_MeridianError) (.ref c_BadBytes) = some false
  e_BadArgument : ExcT K mg "BadArgument" c_BadArgument
  u_BadArgument_MeridianError : PySem.W.exmOne K (.ref c_BadArgument) (.ref c_MeridianError) = some true
  q_BadArgument_MeridianError : PySem.W.kitOne K (.ref c_BadArgument) (.ref c_MeridianError) = some true
  u_BadArgument_BadArgument : PySem.W.exmOne K (.ref c_BadArgument) (.ref c_BadArgument) = some true
  q_BadArgument_BadArgument : PySem.W.kitOne K (.ref c_BadArgument) (.ref c_BadArgument) = some true
  u_BadArgument_BadBytes : PySem.W.exmOne K (.ref c_BadArgument) (.ref c_BadBytes) = some false
  q_BadArgument_BadBytes : PySem.W.kitOne K (.ref c_BadArgument) (.ref c_BadBytes) = some false
  e_BadBytes : ExcT K mg "BadBytes" c_BadBytes
  u_BadBytes_MeridianError : PySem.W.exmOne K (.ref c_BadBytes) (.ref c_MeridianError) = some true
  q_BadBytes_MeridianError : PySem.W.kitOne K (.ref c_BadBytes) (.ref c_MeridianError) = some true
  u_BadBytes_BadArgument : PySem.W.exmOne K (.ref c_BadBytes) (.ref c_BadArgument) = some false
  q_BadBytes_BadArgument : PySem.W.kitOne K (.ref c_BadBytes) (.ref c_BadArgument) = some false
  u_BadBytes_BadBytes : PySem.W.exmOne K (.ref c_BadBytes) (.ref c_BadBytes) = some true
  q_BadBytes_BadBytes : PySem.W.kitOne K (.ref c_BadBytes) (.ref c_BadBytes) = some true
  o_ALPHABET : Value
  k_ALPHABET : mg "ALPHABET" = some o_ALPHABET
  r_ALPHABET : RelV (.str "abcdefghijklmnopqrstuvwxyz0123456789./") o_ALPHABET
  z_len : mg "len" = none
  z_tuple : mg "tuple" = none
  z_abs : mg "abs" = none
  z_int : mg "int" = none
  z_isinstance : mg "isinstance" = none
  z_bool : mg "bool" = none
  z_range : mg "range" = none
  z_list : mg "list" = none
section
variable {P : Program} {w : World} {K : PySem.W.Frag} {mg : Str → Option Value} {base : Heap}
--PART /work/steering/wip/tools/pre.lean


--PART /work/steering/wip/tools/own.lean


--PART /work/steering/wip/parts/rets.lean

--PART /work/steering/wip/parts/num.lean
/-! ### base 128 -/
def vint (n : Int) : List Int := if n < 128 then [n] else (n % 128 + 128) :: vint (n / 128)
termination_by n.toNat
decreasing_by omega
theorem vint_lt {n : Int} (h : n < 128) : vint n = [n] := by rw [vint, if_pos h]
theorem vint_ge {n : Int} (h : ¬ n < 128) : vint n = (n % 128 + 128) :: vint (n / 128) := by rw [vint, if_neg h]
def NB : Int := 128 ^ 100
theorem vint_len : ∀ (k : Nat) (n : Int), n < 128 ^ (k + 1) → (vint n).length ≤ k + 1
  | 0, n, h => by
    have h' : n < 128 := by simpa using h
    rw [vint_lt h']
    exact Nat.le_refl _
  | k + 1, n, h => by
    by_cases c : n < 128
    · rw [vint_lt c]
      show 1 ≤ _
      omega
    · rw [vint_ge c, List.length_cons]
      have := vint_len k (n / 128) (by
        have e : (128 : Int) ^ (k + 1 + 1) = 128 ^ (k + 1) * 128 := Int.pow_succ ..
        rw [e] at h
        exact Int.ediv_lt_of_lt_mul (by decide) h)
      omega
theorem vint_len100 {n : Int} (h : n < NB) : (vint n).length ≤ 100 := vint_len 99 n h
theorem vint_ne (n : Int) : vint n ≠ [] := by
  by_cases c : n < 128
  · rw [vint_lt c]; simp
  · rw [vint_ge c]; simp
theorem vint_pos (n : Int) : 1 ≤ (vint n).length := by
  have := vint_ne n
  cases e : vint n with
  | nil => exact absurd e this
  | cons a r => simp
theorem vint_byte : ∀ (k : Nat) (n : Int), n < 128 ^ (k + 1) → 0 ≤ n → ∀ b ∈ vint n, 0 ≤ b ∧ b < 256
  | 0, n, h, h0, b, hb => by
    have h' : n < 128 := by simpa using h
    rw [vint_lt h'] at hb
    have : b = n := by simpa using hb
    omega
  | k + 1, n, h, h0, b, hb => by
    by_cases c : n < 128
    · rw [vint_lt c] at hb
      have : b = n := by simpa using hb
      omega
    · rw [vint_ge c] at hb
      rcases List.mem_cons.mp hb with e | e
      · omega
      · exact vint_byte k (n / 128) (by
          have e : (128 : Int) ^ (k + 1 + 1) = 128 ^ (k + 1) * 128 := Int.pow_succ ..
          rw [e] at h
          exact Int.ediv_lt_of_lt_mul (by decide) h) (by omega) b e
theorem vint_byte_NB {n : Int} (h : n < NB) (h0 : 0 ≤ n) : ∀ b ∈ vint n, 0 ≤ b ∧ b < 256 := vint_byte 99 n h h0
/-! ### numbers of the law -/
def lawNum (c : Int) : Int := if c < 10 ^ 18 then ([0, 1, 127, 128, 129, 16383, 16384, 16385, c] : List Int).getD (c % 9).toNat 0 else c % 10 ^ 60
theorem lawNum_lt {c : Int} (h : 0 ≤ c) : 0 ≤ lawNum c ∧ lawNum c < 10 ^ 60 := by
  unfold lawNum
  by_cases k : c < 10 ^ 18
  · rw [if_pos k]
    obtain ⟨j, hj, e⟩ : ∃ j : Nat, j < 9 ∧ (c % 9).toNat = j := ⟨_, by omega, rfl⟩
    rw [e]
    match j, hj with
    | 0, _ | 1, _ | 2, _ | 3, _ | 4, _ | 5, _ | 6, _ | 7, _ => exact ⟨by simp, by simp⟩
    | 8, _ => exact ⟨h, by show c < _; omega⟩
  · rw [if_neg k]
    exact ⟨Int.emod_nonneg _ (by decide), Int.emod_lt_of_pos _ (by decide)⟩
theorem num_NB {n : Int} (h : n < 10 ^ 60) : n < NB := Int.lt_of_lt_of_le h (by decide +kernel)
theorem canLay_dints : ∀ ns : List Int, PyData.canLayAll0 (ns.map PyData.int) = true
  | [] => rfl
  | n :: r => by
    show (PyData.canLay0 (.int n) && PyData.canLayAll0 (r.map PyData.int)) = true
    rw [canLay_dints r]
    rfl
theorem depth_dints : ∀ ns : List Int, PyData.depthAll (ns.map PyData.int) = 0
  | [] => by unfold PyData.depthAll; rfl
  | n :: r => by
    show PyData.depthAll (.int n :: r.map PyData.int) = 0
    unfold PyData.depthAll
    rw [depth_dints r]
    unfold PyData.depth
    rfl
theorem shaped_dInts (ns : List Int) : SeqAt.shaped (dInts ns) = true := by
  unfold SeqAt.shaped dInts
  rw [show PyData.canLay0 (.list (ns.map PyData.int)) = true from by unfold PyData.canLay0; exact canLay_dints ns]
  have : PyData.depth (.list (ns.map PyData.int)) = 1 := by
    unfold PyData.depth
    rw [depth_dints]
  rw [this]
  decide

--PART /work/steering/wip/parts/lawnum.lean
/-! ### the law's own helpers -/
def cell (ns : List Int) (k : Int) : Int := ((ns.getD k.toNat 0).natAbs : Int)
theorem cell_nn (ns : List Int) (k : Int) : 0 ≤ cell ns k := Int.natCast_nonneg _
def sp__law_cell (T : Env K mg) : Sp := fun vs H Q E => ∃ (a : Addr) (ns : List Int) (k : Int), vs = [.ref a, .int k] ∧ SqL K H a (ns.map V.int) ∧ 0 ≤ k ∧ Q (.int (cell ns k)) H
theorem ok__law_cell (T : Env K mg) : FnOk P w K mg base (L2.CX P w) 1 T.a__law_cell T.d__law_cell ["script", "k"] (sp__law_cell T) := by
  refine T.F__law_cell.okX sc__law_cell (fun vs H Q E h => by obtain ⟨_, _, _, rfl, _⟩ := h; rfl) (fun cdv A outer s H vs Q E hr h => ?_)
  obtain ⟨a, ns, k, rfl, hS, hk, h1⟩ := h
  refine ⟨_, (pss_cons (ps_if (pt_cmpR op_lt (pv 1) (pe_callB call_len (by rfl) T.z_len (by decide +kernel) (pa_cons (pv 0) pa_nil)) (nomark _)) (pss_one (ps_ret (pe_callB call_abs (by rfl) T.z_abs (by decide +kernel) (pa_cons (pe_callTy call_int1 (by rfl) T.z_int (by decide +kernel) (pa_cons (pe_ix ix_list (pv 0) (pv 1) (fun _ _ => rfl)) pa_nil)) pa_nil)))) pss_nil)
      (pss_one (ps_ret pe_int))), ?_⟩
  obtain ⟨j, rfl⟩ : ∃ j : Nat, k = (j : Int) := ⟨k.toNat, by omega⟩
  have hc : cell ns (j : Int) = ((ns.getD j 0).natAbs : Int) := rfl
  refine ⟨_, rfl, _, rfl, _, _, rfl, .inl ⟨_, hS, rfl⟩, _, _, rfl, rfl, _, rfl, iteD (fun c => ?_) (fun c => ?_)⟩
  · rw [List.length_map] at c
    have hj : j < ns.length := by omega
    refine ⟨_, rfl, _, rfl, a, _, _, _, rfl, rfl, hS, at_of (j := j) (v := V.int (ns.getD j 0)) rfl (by rw [List.getElem?_map, List.getD_eq_getElem?_getD, List.getElem?_eq_getElem hj]; rfl), .inl ⟨_, rfl, _, rfl, ?_⟩⟩
    have e : (if ns.getD j 0 < 0 then -ns.getD j 0 else ns.getD j 0) = cell ns (j : Int) := by
      rw [hc]
      split <;> omega
    show Q (V.int (if ns.getD j 0 < 0 then -ns.getD j 0 else ns.getD j 0)) H
    rw [e]
    exact h1
  · rw [List.length_map] at c
    show Q (.int 0) H
    have e : cell ns (j : Int) = 0 := by
      rw [hc, List.getD_eq_getElem?_getD, List.getElem?_eq_none (by omega)]
      rfl
    rw [e] at h1
    exact h1
def sp__law_is_int (T : Env K mg) : Sp := fun vs H Q E => ∃ (i : Int), vs = [.int i] ∧ Q (.bl true) H
theorem ok__law_is_int (T : Env K mg) : FnOk P w K mg base (L2.CX P w) 1 T.a__law_is_int T.d__law_is_int ["thing"] (sp__law_is_int T) := by
  refine T.F__law_is_int.okX sc__law_is_int (fun vs H Q E h => by obtain ⟨_, rfl, _⟩ := h; rfl) (fun cdv A outer s H vs Q E hr h => ?_)
  obtain ⟨i, rfl, h1⟩ := h
  refine ⟨_, (pss_one (ps_ret (pe_and (pe_callB call_isi (by rfl) T.z_isinstance (by decide +kernel) (pa_cons (pv 0) (pa_cons (pe_bltn (v := .ty "int") (by rfl) T.z_int (by decide +kernel) rfl) pa_nil))) (pe_one (pe_not (pe_callB call_isi (by rfl) T.z_isinstance (by decide +kernel) (pa_cons (pv 0) (pa_cons (pe_bltn (v := .ty "bool") (by rfl) T.z_bool (by decide +kernel) rfl) pa_nil)))))))), ?_⟩
  refine ⟨_, rfl, _, _, _, _, _, rfl, .ty _, .base (.int _), kit_ty (b := "int") (r := true) (by decide +kernel), _, rfl, iteT ?_⟩
  exact ⟨_, rfl, _, _, _, _, _, rfl, .ty _, .base (.int _), kit_ty (b := "bool") (r := false) (by decide +kernel), _, rfl, h1⟩

--PART /work/steering/wip/parts/lawvar.lean
def sp__law_varint (T : Env K mg) : Sp := fun vs H Q E => ∃ n : Int, vs = [.int n] ∧ 0 ≤ n ∧ n < NB ∧ ∀ p H', Same H H' → H p = none → H' p = some (.lst ((vint n).map V.int)) → Q (.ref p) H'
theorem ok__law_varint (T : Env K mg) : FnOk P w K mg base (L2.CX P w) 1 T.a__law_varint T.d__law_varint ["number"] (sp__law_varint T) := by
  refine T.F__law_varint.okX sc__law_varint (fun vs H Q E h => by obtain ⟨n, rfl, _⟩ := h; rfl) (fun cdv A outer s H vs Q E hr h => ?_)
  obtain ⟨n, rfl, hn, hb, h1⟩ := h
  refine ⟨_, (pss_cons (ps_set (i := 1) sc__law_varint.nd rfl (Or.inl rfl) (pe_lst pa_nil))
      (pss_cons (ps_while (passes_of rfl) (pt_cmpR op_gt (pv 0) pe_int (nomark _)) (pss_cons (ps_expr (pe_bm PySem.F.plainAttrs_list PySem.F.slot_list_append PySem.F.type_list_append mt_append (pv 1) (pa_cons (pe_op op_add (pe_op op_mod (pe_callTy call_int1 (by rfl) T.z_int (by decide +kernel) (pa_cons (pv 0) pa_nil)) pe_int) pe_int) pa_nil)))
      (pss_one (ps_set (i := 0) sc__law_varint.nd rfl (Or.inl rfl) (pe_op op_fdiv (pv 0) pe_int)))))
      (pss_cons (ps_expr (pe_bm PySem.F.plainAttrs_list PySem.F.slot_list_append PySem.F.type_list_append mt_append (pv 1) (pa_cons (pv 0) pa_nil)))
      (pss_one (ps_ret (pv 1)))))), ?_⟩
  refine ⟨Nat.zero_le _, fun p np => ?_⟩
  refine ⟨fun m σ H' => ∃ (k : Int) (pre : List Int), m = k.toNat ∧ σ = [some (.int k), some (.ref p)] ∧ 0 ≤ k ∧ pre ++ vint k = vint n ∧ Same H H' ∧ H' p = some (.lst (pre.map V.int)), ⟨_, n, [], rfl, rfl, hn, rfl, same_new np, upd_same⟩, ?_⟩
  rintro m σ H' ⟨k, pre, rfl, rfl, hk, hp, hs, hl⟩
  have hlen : pre.length + (vint k).length ≤ 100 := by
    rw [← List.length_append, hp]
    exact vint_len100 hb
  have hpos := vint_pos k
  refine ⟨_, rfl, _, _, rfl, rfl, _, rfl, iteD (fun c => ?_) (fun c => ?_)⟩
  · refine ⟨fun σ' H' => _, fun _ _ h => h, ?_⟩
    refine ⟨_, rfl, .inl ⟨rfl, _, SqL.of hl⟩, _, rfl, .inl ⟨_, rfl, _, _, rfl, rfl, by show (0 : Int) < _; decide, _, _, rfl, rfl, _, _, _, rfl, rfl, hl, by rw [List.length_map]; exact small1000 (by omega), ?_⟩⟩
    refine ⟨_, rfl, _, _, rfl, rfl, ⟨by decide, by decide⟩, ?_⟩
    refine ⟨(k / 128).toNat, by omega, k / 128, pre ++ [k % 128 + 128], rfl, rfl, by omega, ?_, same_mut hs np, ?_⟩
    · rw [List.append_assoc, ← hp, vint_ge (n := k) (by omega)]
      rfl
    · rw [upd_same, List.map_append]
      rfl
  · refine ⟨_, rfl, .inl ⟨rfl, _, SqL.of hl⟩, _, rfl, _, _, _, rfl, rfl, hl, by rw [List.length_map]; exact small1000 (by omega), ?_⟩
    refine ⟨_, rfl, ?_⟩
    refine h1 p _ (same_mut hs np) np ?_
    rw [upd_same, ← hp, vint_lt (n := k) (by omega), List.map_append]
    rfl

--PART /work/steering/wip/parts/draws.lean
/-! ### drawn numbers -/
def bigGo (l : Int) : Nat → Int → List Int
  | 0, _ => []
  | m + 1, c => c % l :: bigGo l m (c / l)
def mixGo (l : Int) : Nat → Int → Int → List Int
  | 0, _, _ => []
  | m + 1, k, x => ((x * 16807 + 7919 * k) % 2147483647) / 64 % l :: mixGo l m (k + 1) ((x * 16807 + 7919 * k) % 2147483647)
def draws (c : Int) (m : Nat) (l : Int) : List Int := if 10 ^ 18 ≤ c then bigGo l m c else mixGo l m 0 ((c * 48271 + 12345) % 2147483647)
theorem bigGo_len (l : Int) : ∀ m c, (bigGo l m c).length = m
  | 0, _ => rfl
  | m + 1, c => by
    show (bigGo l m _).length + 1 = _
    rw [bigGo_len l m]
theorem mixGo_len (l : Int) : ∀ m k x, (mixGo l m k x).length = m
  | 0, _, _ => rfl
  | m + 1, k, x => by
    show (mixGo l m _ _).length + 1 = _
    rw [mixGo_len l m]
theorem bigGo_mem {l : Int} (hl : 0 < l) : ∀ m c, ∀ d ∈ bigGo l m c, 0 ≤ d ∧ d < l
  | 0, _, d, h => by cases h
  | m + 1, c, d, h => by
    rcases List.mem_cons.mp h with e | e
    · rw [e]
      exact ⟨Int.emod_nonneg _ (by omega), Int.emod_lt_of_pos _ hl⟩
    · exact bigGo_mem hl m _ d e
theorem mixGo_mem {l : Int} (hl : 0 < l) : ∀ m k x, ∀ d ∈ mixGo l m k x, 0 ≤ d ∧ d < l
  | 0, _, _, d, h => by cases h
  | m + 1, k, x, d, h => by
    rcases List.mem_cons.mp h with e | e
    · rw [e]
      exact ⟨Int.emod_nonneg _ (by omega), Int.emod_lt_of_pos _ hl⟩
    · exact mixGo_mem hl m _ _ d e
theorem draws_len (c : Int) (m : Nat) (l : Int) : (draws c m l).length = m := by
  unfold draws
  split
  · exact bigGo_len l m c
  · exact mixGo_len l m _ _
theorem draws_mem {c : Int} {m : Nat} {l : Int} (hl : 0 < l) : ∀ d ∈ draws c m l, 0 ≤ d ∧ d < l := by
  unfold draws
  split
  · exact bigGo_mem hl m c
  · exact mixGo_mem hl m _ _
def sp__law_draws (T : Env K mg) : Sp := fun vs H Q E => ∃ c m l : Int, vs = [.int c, .int m, .int l] ∧ 0 ≤ m ∧ m ≤ 100000 ∧ 0 < l ∧ l < 1000000 ∧ ∀ p H', Same H H' → H p = none → Li H' p (draws c m.toNat l) → Q (.ref p) H'
theorem ok__law_draws (T : Env K mg) : FnOk P w K mg base (L2.CX P w) 1 T.a__law_draws T.d__law_draws ["cell", "many", "limit"] (sp__law_draws T) := by
  refine T.F__law_draws.okX sc__law_draws (fun vs H Q E h => by obtain ⟨_, _, _, rfl, _⟩ := h; rfl) (fun cdv A outer s H vs Q E hr h => ?_)
  obtain ⟨c, m, l, rfl, hm, hm2, hl, hl2, h1⟩ := h
  refine ⟨_, (pss_cons (ps_set (i := 3) sc__law_draws.nd rfl (Or.inl rfl) (pe_lst pa_nil))
      (pss_cons (ps_if (pt_cmpR op_ge (pv 0) (pe_op op_pow pe_int pe_int) (nomark _)) (pss_cons (ps_for (passes_of rfl) rfl (pi_range1 rfl T.z_range (pa_cons (pv 1) pa_nil)) (pg_name (i := 4) sc__law_draws.nd rfl (Or.inl rfl)) (pss_cons (ps_expr (pe_bm PySem.F.plainAttrs_list PySem.F.slot_list_append PySem.F.type_list_append mt_append (pv 3) (pa_cons (pe_op op_mod (pe_callTy call_int1 (by rfl) T.z_int (by decide +kernel) (pa_cons (pv 0) pa_nil)) (pv 2)) pa_nil)))
      (pss_one (ps_set (i := 0) sc__law_draws.nd rfl (Or.inl rfl) (pe_op op_fdiv (pv 0) (pv 2))))))
      (pss_one (ps_ret (pv 3)))) pss_nil)
      (pss_cons (ps_set (i := 5) sc__law_draws.nd rfl (Or.inl rfl) (pe_op op_mod (pe_callTy call_int1 (by rfl) T.z_int (by decide +kernel) (pa_cons (pe_op op_add (pe_op op_mul (pv 0) pe_int) pe_int) pa_nil)) pe_int))
      (pss_cons (ps_for (passes_of rfl) rfl (pi_range1 rfl T.z_range (pa_cons (pv 1) pa_nil)) (pg_name (i := 4) sc__law_draws.nd rfl (Or.inl rfl)) (pss_cons (ps_set (i := 5) sc__law_draws.nd rfl (Or.inl rfl) (pe_op op_mod (pe_callTy call_int1 (by rfl) T.z_int (by decide +kernel) (pa_cons (pe_op op_add (pe_op op_mul (pv 5) pe_int) (pe_op op_mul pe_int (pv 4))) pa_nil)) pe_int))
      (pss_one (ps_expr (pe_bm PySem.F.plainAttrs_list PySem.F.slot_list_append PySem.F.type_list_append mt_append (pv 3) (pa_cons (pe_op op_mod (pe_op op_fdiv (pv 5) pe_int) (pv 2)) pa_nil))))))
      (pss_one (ps_ret (pv 3))))))), ?_⟩
  refine ⟨Nat.zero_le _, fun p np => ?_⟩
  refine ⟨_, rfl, _, _, rfl, rfl, ⟨by decide, by decide, by decide⟩, _, _, rfl, rfl, _, rfl, iteD (fun k => ?_) (fun k => ?_)⟩
  · have k : 10 ^ 18 ≤ c := k
    have ed : draws c m.toNat l = bigGo l m.toNat c := if_pos k
    rw [ed] at h1
    refine ⟨_, rfl, m, rfl, by omega, by omega, for_range (n := m.toNat) (fun i σ H' => ∃ c' v4 pre, σ = [some (.int c'), some (.int m), some (.int l), some (.ref p), v4, none] ∧ i ≤ m.toNat ∧ pre.length = i ∧ pre ++ bigGo l (m.toNat - i) c' = bigGo l m.toNat c ∧ Same H H' ∧ Li H' p pre) ⟨c, none, [], rfl, Nat.zero_le _, rfl, rfl, same_new np, upd_same⟩ ?_ ?_⟩
    · rintro i σ H1 hi ⟨c', v4, pre, rfl, _, hp, he, hs, hL⟩
      refine ⟨_, rfl, .inl ⟨rfl, _, SqL.of hL⟩, _, rfl, .inl ⟨_, rfl, _, rfl, _, _, rfl, rfl, hl, _, _, _, rfl, rfl, hL, szl (by rw [List.length_map]; omega), ?_⟩⟩
      refine ⟨_, rfl, _, rfl, _, _, rfl, rfl, ⟨hl, by omega⟩, ?_⟩
      refine ⟨c' / l, _, pre ++ [c' % l], rfl, by omega, by rw [List.length_append, hp]; rfl, ?_, same_mut hs np, li_push⟩
      rw [← he, List.append_assoc, show m.toNat - i = (m.toNat - (i + 1)) + 1 by omega]
      rfl
    · rintro σ H1 ⟨c', v4, pre, rfl, _, hp, he, hs, hL⟩
      refine ⟨_, rfl, h1 p _ hs np ?_⟩
      rw [← he, Nat.sub_self]
      show Li _ _ (pre ++ [])
      rw [List.append_nil]
      exact hL
  · have k : ¬ 10 ^ 18 ≤ c := k
    have ed : draws c m.toNat l = mixGo l m.toNat 0 ((c * 48271 + 12345) % 2147483647) := if_neg k
    rw [ed] at h1
    refine ⟨_, rfl, _, _, rfl, rfl, .inr ⟨by decide, by decide⟩, _, _, rfl, rfl, .inl ⟨_, rfl, _, _, rfl, rfl, by show (0 : Int) < _; decide, ?_⟩⟩
    refine ⟨_, rfl, m, rfl, by omega, by omega, for_range (n := m.toNat) (fun i σ H' => ∃ x v4 pre, σ = [some (.int c), some (.int m), some (.int l), some (.ref p), v4, some (.int x)] ∧ i ≤ m.toNat ∧ pre.length = i ∧ pre ++ mixGo l (m.toNat - i) (0 + (i : Int)) x = mixGo l m.toNat 0 ((c * 48271 + 12345) % 2147483647) ∧ Same H H' ∧ Li H' p pre) ⟨_, none, [], rfl, Nat.zero_le _, rfl, rfl, same_new np, upd_same⟩ ?_ ?_⟩
    · rintro i σ H1 hi ⟨x, v4, pre, rfl, _, hp, he, hs, hL⟩
      refine ⟨_, rfl, _, _, rfl, rfl, .inr ⟨by decide, by decide⟩, _, rfl, _, _, rfl, rfl, .inl ⟨by decide, by decide⟩, _, _, rfl, rfl, .inl ⟨_, rfl, _, _, rfl, rfl, by show (0 : Int) < _; decide, ?_⟩⟩
      refine ⟨_, rfl, .inl ⟨rfl, _, SqL.of hL⟩, _, rfl, _, _, rfl, rfl, ⟨by decide, by decide⟩, _, rfl, _, _, rfl, rfl, hl, _, _, _, rfl, rfl, hL, szl (by rw [List.length_map]; omega), ?_⟩
      refine ⟨_, _, pre ++ [((x * 16807 + 7919 * (0 + (i : Int))) % 2147483647) / 64 % l], rfl, by omega, by rw [List.length_append, hp]; rfl, ?_, same_mut hs np, li_push⟩
      rw [← he, List.append_assoc, show m.toNat - i = (m.toNat - (i + 1)) + 1 by omega, show (0 + ((i + 1 : Nat) : Int)) = 0 + (i : Int) + 1 by omega]
      rfl
    · rintro σ H1 ⟨x, v4, pre, rfl, _, hp, he, hs, hL⟩
      refine ⟨_, rfl, h1 p _ hs np ?_⟩
      rw [← he, Nat.sub_self]
      show Li _ _ (pre ++ [])
      rw [List.append_nil]
      exact hL
def blk (c : Int) (m : Nat) : List Int := (draws c m 997).map (· % 256)
theorem blk_len (c : Int) (m : Nat) : (blk c m).length = m := by
  unfold blk
  rw [List.length_map, draws_len]
theorem blk_mem (c : Int) (m : Nat) : ∀ d ∈ blk c m, 0 ≤ d ∧ d < 256 := by
  intro d h
  obtain ⟨e, _, rfl⟩ := List.mem_map.mp h
  exact ⟨Int.emod_nonneg _ (by decide), Int.emod_lt_of_pos _ (by decide)⟩
def sp__law_block (T : Env K mg) : Sp := fun vs H Q E => ∃ c m : Int, vs = [.int c, .int m] ∧ 0 ≤ m ∧ m ≤ 100000 ∧ ∀ p H', Same H H' → H p = none → Li H' p (blk c m.toNat) → Q (.ref p) H'
theorem ok__law_block (T : Env K mg) : FnOk P w K mg base (L2.CX P w) 2 T.a__law_block T.d__law_block ["cell", "many"] (sp__law_block T) := by
  refine T.F__law_block.okX sc__law_block (fun vs H Q E h => by obtain ⟨_, _, rfl, _⟩ := h; rfl) (fun cdv A outer s H vs Q E hr h => ?_)
  obtain ⟨c, m, rfl, hm, hm2, h1⟩ := h
  have hu64 := hu64_of hr
  have G__law_draws := ok__law_draws (P := P) (w := w) (base := base) T
  refine ⟨_, (pss_one (ps_ret (pe_lc (own := [("number", 2)]) (by rfl) sc__law_block.nd (pi_list (pe_call G__law_draws (hr.mono (by decide)) rfl T.g__law_draws T.F__law_draws.kp T.b__law_draws .nil passL (pa_cons (pv 0) (pa_cons (pv 1) (pa_cons pe_int pa_nil))))) (blkOk_by (own := [("number", 2)]) (N := ["cell", "many", "number"]) (sc := defScope s__law_block) (by decide +kernel)) (fun _ _ _ _ _ => (pg_name (i := 2) sc__law_block.nd rfl (Or.inl rfl))) (fun _ _ _ _ _ => pts_nil) (fun _ _ _ _ _ => (pe_op op_mod (pe_callTy call_int1 (by rfl) T.z_int (by decide +kernel) (pa_cons (pv 2) pa_nil)) pe_int))))), ?_⟩
  refine ⟨_, rfl, _, rfl, c, m, 997, rfl, hm, hm2, by decide, by decide, fun p H1 s1 np hL => ?_⟩
  have hlen := draws_len c m.toNat 997
  refine ⟨p, rfl, ⟨_, SqL.of hL⟩, fun D hD => lc_list (K := K) (a := p) (xs := (draws c m.toNat 997).map V.int) (fun i H' => Same H1 H' ∧ Li H' D ((draws c m.toNat 997).take i |>.map (· % 256))) ⟨same_new hD, upd_same⟩ (fun i H' _ h => SqL.of (h.1 _ _ hL)) ?_ ?_⟩
  · rintro i x H' hx ⟨hs, hl⟩
    obtain ⟨n, hn, rfl⟩ := mem_int hx
    have hi : i < (draws c m.toNat 997).length := (List.getElem?_eq_some_iff.mp hn).1
    refine ⟨rfl, yes_if ?_⟩
    refine ⟨_, rfl, .inl ⟨_, rfl, _, _, rfl, rfl, by show (0 : Int) < _; decide, ?_⟩⟩
    refine ⟨_, hl, szl (by rw [List.length_map, List.length_map, List.length_take]; omega), same_mut hs hD, ?_⟩
    rw [take_succ hn, List.map_append]
    exact li_push
  · rintro H' ⟨hs, hl⟩
    rw [List.length_map, List.take_length] at hl
    exact h1 D H' (s1.trans hs) (s1.free hD) hl

--PART /work/steering/wip/parts/encnum.lean
def sp_encode_number (T : Env K mg) : Sp := fun vs H Q E => ∃ n : Int, vs = [.int n] ∧ n < NB ∧ (0 ≤ n → ∀ p H', Same H H' → H p = none → H' p = some (.lst ((vint n).map V.int)) → Q (.ref p) H') ∧ (n < 0 → E (.ref T.c_BadArgument) none H)
theorem ok_encode_number (T : Env K mg) : FnOk P w K mg base (L2.CX P w) 1 T.a_encode_number T.d_encode_number ["number"] (sp_encode_number T) := by
  refine T.F_encode_number.okX sc_encode_number (fun vs H Q E h => by obtain ⟨n, rfl, _⟩ := h; rfl) (fun cdv A outer s H vs Q E hr h => ?_)
  obtain ⟨n, rfl, hb, h1, h2⟩ := h
  refine ⟨_, (pss_cons (ps_if (pt_cmpR op_lt (pv 0) pe_int (nomark _)) (pss_one (ps_raise rfl (takes_of rfl rfl rfl rfl) (pmk_own PySem.F.excBase_ValueError T.e_BadArgument.xP T.e_BadArgument.gC T.e_BadArgument.kC (raises_own T.e_BadArgument.bP T.e_BadArgument.tP) (by exact rfl)))) pss_nil)
      (pss_cons (ps_set (i := 1) sc_encode_number.nd rfl (Or.inl rfl) (pe_lst pa_nil))
      (pss_cons (ps_while (passes_of rfl) (pt_cmpR op_ge (pv 0) pe_int (nomark _)) (pss_cons (ps_expr (pe_bm PySem.F.plainAttrs_list PySem.F.slot_list_append PySem.F.type_list_append mt_append (pv 1) (pa_cons (pe_op op_add (pe_op op_mod (pv 0) pe_int) pe_int) pa_nil)))
      (pss_one (ps_set (i := 0) sc_encode_number.nd rfl (Or.inl rfl) (pe_op op_fdiv (pv 0) pe_int)))))
      (pss_cons (ps_expr (pe_bm PySem.F.plainAttrs_list PySem.F.slot_list_append PySem.F.type_list_append mt_append (pv 1) (pa_cons (pv 0) pa_nil)))
      (pss_one (ps_ret (pv 1))))))), ?_⟩
  refine ⟨_, rfl, _, _, rfl, rfl, _, rfl, ite2 (fun c => h2 (of_decide_eq_true c)) (fun c => ?_)⟩
  have hn : 0 ≤ n := by
    have := of_decide_eq_false (eq_false_of_ne_true c)
    omega
  refine ⟨Nat.zero_le _, fun p np => ?_⟩
  refine ⟨fun m σ H' => ∃ (k : Int) (pre : List Int), m = k.toNat ∧ σ = [some (.int k), some (.ref p)] ∧ 0 ≤ k ∧ pre ++ vint k = vint n ∧ Same H H' ∧ H' p = some (.lst (pre.map V.int)), ⟨_, n, [], rfl, rfl, hn, rfl, same_new np, upd_same⟩, ?_⟩
  rintro m σ H' ⟨k, pre, rfl, rfl, hk, hp, hs, hl⟩
  have hlen : pre.length + (vint k).length ≤ 100 := by
    rw [← List.length_append, hp]
    exact vint_len100 hb
  have hpos := vint_pos k
  refine ⟨_, rfl, _, _, rfl, rfl, _, rfl, ite2 (fun c => ?_) (fun c => ?_)⟩
  · have c := of_decide_eq_true c
    refine ⟨fun σ' H' => _, fun _ _ h => h, ?_⟩
    refine ⟨_, rfl, .inl ⟨rfl, _, SqL.of hl⟩, _, rfl, _, _, rfl, rfl, by show (0 : Int) < _; decide, _, _, rfl, rfl, _, _, _, rfl, rfl, hl, by rw [List.length_map]; exact small1000 (by omega), ?_⟩
    refine ⟨_, rfl, _, _, rfl, rfl, ⟨by decide, by decide⟩, ?_⟩
    refine ⟨(k / 128).toNat, by omega, k / 128, pre ++ [k % 128 + 128], rfl, rfl, by omega, ?_, same_mut hs np, ?_⟩
    · rw [List.append_assoc, ← hp, vint_ge (n := k) (by omega)]
      rfl
    · rw [upd_same, List.map_append]
      rfl
  · have c := of_decide_eq_false (eq_false_of_ne_true c)
    refine ⟨_, rfl, .inl ⟨rfl, _, SqL.of hl⟩, _, rfl, _, _, _, rfl, rfl, hl, by rw [List.length_map]; exact small1000 (by omega), ?_⟩
    refine ⟨_, rfl, ?_⟩
    refine h1 hn p _ (same_mut hs np) np ?_
    rw [upd_same, ← hp, vint_lt (n := k) (by omega), List.map_append]
    rfl

--PART /work/steering/wip/parts/texts.lean
/-! ### texts -/
abbrev AL : Str := "abcdefghijklmnopqrstuvwxyz0123456789./"
def codeI (c : Nat) : Int := Txt.find AL ⟨#[c]⟩
def okT (t : Str) : Prop := ∀ c ∈ t.cps.toList, 0 ≤ codeI c
instance (t : Str) : Decidable (okT t) := by unfold okT; infer_instance
def encT (t : Str) : List Int := vint t.length ++ t.cps.toList.map codeI
theorem str_len (t : Str) : t.length = t.cps.toList.length := rfl
theorem encT_len {t : Str} (h : t.length ≤ 100000) : (encT t).length ≤ 100100 := by
  unfold encT
  rw [List.length_append, List.length_map, ← str_len]
  have := vint_len100 (n := (t.length : Int)) (Int.lt_of_le_of_lt (b := 100000) (by omega) (by decide +kernel))
  omega
theorem encT_le {t : Str} (h : t.length ≤ 100000) : (encT t).length ≤ t.length + 100 := by
  unfold encT
  rw [List.length_append, List.length_map, ← str_len]
  have := vint_len100 (n := (t.length : Int)) (Int.lt_of_le_of_lt (b := 100000) (by omega) (by decide +kernel))
  omega
theorem small_NB {n : Nat} (h : n ≤ 100000) : ((n : Nat) : Int) < NB := Int.lt_of_le_of_lt (b := 100000) (by omega) (by decide +kernel)
theorem for_its {t : Str} {g : TG} {tb : TS} {D : Ends} {σ : L2.St} {H : Hp} (Pv : Nat → L2.St → Hp → Prop) (h0 : Pv 0 σ H)
    (hs : ∀ (i : Nat) (c : Nat) (σ : L2.St) (H : Hp), t.cps.toList[i]? = some c → Pv i σ H → g (.str ⟨#[c]⟩) σ H fun σ2 H2 => tb { nx := Pv (i + 1), rt := D.rt, bk := D.nx, ct := Pv (i + 1) } σ2 H2)
    (hd : ∀ (σ : L2.St) (H : Hp), Pv t.length σ H → D.nx σ H) :
    ∃ W : Nat → Nat → L2.St → Hp → Prop, (∃ m, W 0 m σ H) ∧ ∀ (i m : Nat) (σ : L2.St) (H : Hp), W i m σ H → ((Its t).stop i H ∧ D.nx σ H) ∨ ((Its t).go i H ∧ ∃ N : L2.St → Hp → Prop, (∀ (σ' : L2.St) (H' : Hp), N σ' H' → ∃ m', m' < m ∧ W (i + 1) m' σ' H') ∧
      ∀ (x : V) (H' : Hp), (Its t).yld i H x H' → g x σ H' fun σ2 H2 => tb { nx := N, rt := D.rt, bk := D.nx, ct := N } σ2 H2) := by
  refine ⟨fun i m σ H => m = t.length - i ∧ i ≤ t.length ∧ Pv i σ H, ⟨_, rfl, Nat.zero_le _, h0⟩, ?_⟩
  rintro i m σ H ⟨rfl, hi, hp⟩
  by_cases k : i < t.length
  · refine .inr ⟨k, Pv (i + 1), fun σ' H' hq => ⟨_, by omega, rfl, k, hq⟩, ?_⟩
    rintro x H' ⟨rfl, c, hc, rfl⟩
    exact hs i c σ H' (by rw [Array.getElem?_toList]; exact hc) hp
  · have e : i = t.length := by omega
    subst e
    exact .inl ⟨Nat.le_refl _, hd σ H hp⟩
def sp_encode_text (T : Env K mg) : Sp := fun vs H Q E => ∃ t : Str, vs = [.str t] ∧ t.length ≤ 100000 ∧ (okT t → ∀ p H', Same H H' → H p = none → Li H' p (encT t) → Q (.ref p) H') ∧ (¬ okT t → ∀ H', Same H H' → E (.ref T.c_BadArgument) none H')
theorem ok_encode_text (T : Env K mg) : FnOk P w K mg base (L2.CX P w) 2 T.a_encode_text T.d_encode_text ["text"] (sp_encode_text T) := by
  refine T.F_encode_text.okX sc_encode_text (fun vs H Q E h => by obtain ⟨_, rfl, _⟩ := h; rfl) (fun cdv A outer s H vs Q E hr h => ?_)
  obtain ⟨t, rfl, hl, h1, h2⟩ := h
  have hu64 := hu64_of hr
  have G_encode_number := ok_encode_number (P := P) (w := w) (base := base) T
  refine ⟨_, (pss_cons (ps_set (i := 1) sc_encode_text.nd rfl (Or.inl rfl) (pe_call G_encode_number (hr.mono (by decide)) rfl T.g_encode_number T.F_encode_number.kp T.b_encode_number .nil (passes_call (takes_of rfl rfl rfl rfl) (fun _ _ _ _ x => x)) (pa_cons (pe_callB call_len (by rfl) T.z_len (by decide +kernel) (pa_cons (pv 0) pa_nil)) pa_nil)))
      (pss_cons (ps_for (passes_of rfl) rfl (pi_str (pv 0)) (pg_name (i := 2) sc_encode_text.nd rfl (Or.inl rfl)) (pss_cons (ps_set (i := 3) sc_encode_text.nd rfl (Or.inl rfl) (pe_m1 PySem.F.slot_str_find PySem.F.type_str_find mt_find (pe_glob rfl T.k_ALPHABET T.r_ALPHABET) (pv 2)))
      (pss_cons (ps_if (pt_cmpR op_lt (pv 3) pe_int (nomark _)) (pss_one (ps_raise rfl (takes_of rfl rfl rfl rfl) (pmk_own PySem.F.excBase_ValueError T.e_BadArgument.xP T.e_BadArgument.gC T.e_BadArgument.kC (raises_own T.e_BadArgument.bP T.e_BadArgument.tP) (by exact rfl)))) pss_nil)
      (pss_one (ps_expr (pe_bm PySem.F.plainAttrs_list PySem.F.slot_list_append PySem.F.type_list_append mt_append (pv 1) (pa_cons (pv 3) pa_nil)))))))
      (pss_one (ps_ret (pv 1))))), ?_⟩
  refine ⟨_, rfl, _, _, rfl, ⟨szle (by omega), rfl⟩, _, rfl, small_NB hl, fun _ p H1 s1 np hp => ?_, fun q => absurd q (by omega)⟩
  refine ⟨_, rfl, t, rfl, ?_⟩
  refine for_its (t := t) (fun i σ H' => ∃ v2 v3, σ = [some (.str t), some (.ref p), v2, v3] ∧ Same H H' ∧ (∀ c ∈ t.cps.toList.take i, 0 ≤ codeI c) ∧ Li H' p (vint t.length ++ (t.cps.toList.take i).map codeI)) ⟨none, none, rfl, s1, fun c h => by simp at h, by simpa using hp⟩ ?_ ?_
  · rintro i c σ H' hc ⟨v2, v3, rfl, sA, hok, hL⟩
    refine ⟨⟨_, rfl⟩, _, rfl, _, _, rfl, rfl, ?_⟩
    refine ⟨_, rfl, _, _, rfl, rfl, _, rfl, iteD (fun k => ?_) (fun k => ?_)⟩
    · exact h2 (fun q => absurd (q c (List.mem_of_getElem? hc)) (Int.not_le.mpr k)) _ sA
    · have k : ¬ codeI c < 0 := k
      have hi : i < t.length := (List.getElem?_eq_some_iff.mp hc).1
      have hv := vint_len100 (small_NB hl)
      refine ⟨_, rfl, .inl ⟨rfl, _, SqL.of hL⟩, _, rfl, _, _, _, rfl, rfl, hL, szl (by rw [List.length_map, List.length_append, List.length_map, List.length_take]; omega), ?_⟩
      refine ⟨_, _, rfl, same_mut sA np, ?_, ?_⟩
      · rw [take_succ hc]
        intro d hd
        rcases List.mem_append.mp hd with q | q
        · exact hok d q
        · have : d = c := by simpa using q
          rw [this]
          omega
      · rw [take_succ hc, List.map_append (f := codeI), ← List.append_assoc]
        exact li_push
  · rintro σ H' ⟨v2, v3, rfl, sA, hok, hL⟩
    rw [str_len, List.take_length] at hok hL
    exact ⟨_, rfl, h1 hok p _ sA np hL⟩
theorem glue_sg (a : Array Nat) : ∀ L : List Nat, List.foldl (fun acc (p : Str) => acc ++ Str.empty.cps ++ p.cps) a (L.map fun c => (⟨#[c]⟩ : Str)) = a ++ L.toArray
  | [] => by simp
  | c :: r => by
    rw [List.map_cons, List.foldl_cons, glue_sg _ r]
    show (a ++ #[] ++ #[c]) ++ r.toArray = _
    simp
theorem join_sg (L : List Nat) : Txt.join Str.empty (L.map fun c => (⟨#[c]⟩ : Str)) = ⟨L.toArray⟩ := by
  cases L with
  | nil => rfl
  | cons c r =>
    show (⟨List.foldl (fun acc (p : Str) => acc ++ Str.empty.cps ++ p.cps) #[c] (r.map fun c => (⟨#[c]⟩ : Str))⟩ : Str) = _
    rw [glue_sg]
    simp
theorem sum_sg (L : List Nat) : ((L.map fun c => (⟨#[c]⟩ : Str)).map (·.length)).sum = L.length := by
  induction L with
  | nil => rfl
  | cons c r ih =>
    rw [List.map_cons, List.map_cons, List.sum_cons, ih, List.length_cons]
    show 1 + r.length = _
    omega
/-! list or tuple -/
def Sq (K : PySem.W.Frag) (H : Hp) (a : Addr) (xs : List V) : Prop := SqL K H a xs ∨ SqT K H a xs
theorem sqt_same {K : PySem.W.Frag} {H H' : Hp} {a : Addr} {xs : List V} (s : Same H H') (h : SqT K H a xs) : SqT K H' a xs := by
  rcases h with h1 | h1
  · rcases h1 with h1 | ⟨o, h1⟩
    · exact .inl (.inl (s _ _ h1))
    · exact .inl (.inr ⟨o, s _ _ h1⟩)
  · exact .inr h1
theorem Sq.same {K : PySem.W.Frag} {H H' : Hp} {a : Addr} {xs : List V} (h : Sq K H a xs) (s : Same H H') : Sq K H' a xs := h.elim (fun h => .inl (s.seq h)) fun h => .inr (sqt_same s h)
theorem Sq.len {K : PySem.W.Frag} {H : Hp} {a : Addr} {xs : List V} (h : Sq K H a xs) : LenV K (V.ref a) H xs.length := h.elim (fun h => .inl ⟨_, h, rfl⟩) fun h => .inr ⟨_, h, rfl⟩
/-- a for over a list or a tuple that stands in a slot -/
theorem for_seq {K : PySem.W.Frag} {a : Addr} {xs : List V} {j : Nat} {g : TG} {tb : TS} {D : Ends} {σ : L2.St} {H H0 : Hp} (Pv : Nat → L2.St → Hp → Prop) (hj : σ[j]? = some (some (V.ref a))) (hS : Sq K H0 a xs) (sH : Same H0 H)
    (h0 : Pv 0 σ H) (hs : ∀ (i : Nat) (σ' : L2.St) (H' : Hp), i ≤ xs.length → Pv i σ' H' → Same H0 H')
    (hb : ∀ (i : Nat) (x : V) (σ : L2.St) (H : Hp), xs[i]? = some x → Pv i σ H → g x σ H fun σ2 H2 => tb { nx := Pv (i + 1), rt := D.rt, bk := D.nx, ct := Pv (i + 1) } σ2 H2) (hd : ∀ (σ : L2.St) (H : Hp), Pv xs.length σ H → D.nx σ H) :
    iSeq K (tVar j) σ H fun J H1 => ∃ W : Nat → Nat → L2.St → Hp → Prop, (∃ m, W 0 m σ H1) ∧ ∀ (i m : Nat) (σ : L2.St) (H : Hp), W i m σ H → (J.stop i H ∧ D.nx σ H) ∨ (J.go i H ∧ ∃ N : L2.St → Hp → Prop, (∀ (σ' : L2.St) (H' : Hp), N σ' H' → ∃ m', m' < m ∧ W (i + 1) m' σ' H') ∧
      ∀ (x : V) (H' : Hp), J.yld i H x H' → g x σ H' fun σ2 H2 => tb { nx := N, rt := D.rt, bk := D.nx, ct := N } σ2 H2) := by
  rcases hS with hS | hS
  · exact .inl ⟨_, hj, a, rfl, ⟨_, sH.seq hS⟩, for_list Pv h0 (fun i σ' H' hi hp => (hs i σ' H' hi hp).seq hS) hb hd⟩
  · exact .inr ⟨_, hj, a, rfl, ⟨_, sqt_same sH hS⟩, for_tup Pv h0 (fun i σ' H' hi hp => sqt_same (hs i σ' H' hi hp) hS) hb hd⟩
def encTs (ts : List Str) : List Int := vint ts.length ++ ts.flatMap encT
theorem encTs_len : ∀ (ts : List Str), (∀ t ∈ ts, t.length ≤ 400) → (ts.flatMap encT).length ≤ 500 * ts.length
  | [], _ => by simp
  | t :: r, h => by
    have := encTs_len r fun t ht => h t (List.mem_cons_of_mem _ ht)
    have h1 := h t List.mem_cons_self
    have h2 : (encT t).length ≤ 500 := by
      unfold encT
      rw [List.length_append, List.length_map, ← str_len]
      have := vint_len100 (n := (t.length : Int)) (Int.lt_of_le_of_lt (b := 100000) (by omega) (by decide +kernel))
      omega
    rw [List.flatMap_cons, List.length_append, List.length_cons]
    omega
theorem mem_str {ts : List Str} {i : Nat} {x : V} (hx : (ts.map V.str)[i]? = some x) : ∃ t, ts[i]? = some t ∧ x = V.str t := by
  rw [List.getElem?_map] at hx
  cases e : ts[i]? with
  | none => rw [e] at hx; cases hx
  | some u => rw [e] at hx; exact ⟨u, rfl, (Option.some.inj hx).symm⟩
def sp_encode_texts (T : Env K mg) : Sp := fun vs H Q E => ∃ (a : Addr) (ts : List Str), vs = [.ref a] ∧ Sq K H a (ts.map V.str) ∧ ts.length ≤ 400 ∧ (∀ t ∈ ts, t.length ≤ 400) ∧ ((∀ t ∈ ts, okT t) → ∀ p H', Same H H' → H p = none → Li H' p (encTs ts) → Q (.ref p) H') ∧ (¬ (∀ t ∈ ts, okT t) → ∀ H', Same H H' → E (.ref T.c_BadArgument) none H')
theorem ok_encode_texts (T : Env K mg) : FnOk P w K mg base (L2.CX P w) 3 T.a_encode_texts T.d_encode_texts ["texts"] (sp_encode_texts T) := by
  refine T.F_encode_texts.okX sc_encode_texts (fun vs H Q E h => by obtain ⟨_, _, rfl, _⟩ := h; rfl) (fun cdv A outer s H vs Q E hr h => ?_)
  obtain ⟨a, ts, rfl, hS, hl, hlt, h1, h2⟩ := h
  have hu64 := hu64_of hr
  have G_encode_number := ok_encode_number (P := P) (w := w) (base := base) T
  have G_encode_text := ok_encode_text (P := P) (w := w) (base := base) T
  refine ⟨_, (pss_cons (ps_set (i := 1) sc_encode_texts.nd rfl (Or.inl rfl) (pe_call G_encode_number (hr.mono (by decide)) rfl T.g_encode_number T.F_encode_number.kp T.b_encode_number .nil (passes_call (takes_of rfl rfl rfl rfl) (fun _ _ _ _ x => x)) (pa_cons (pe_callB call_len (by rfl) T.z_len (by decide +kernel) (pa_cons (pv 0) pa_nil)) pa_nil)))
      (pss_cons (ps_for (passes_of rfl) rfl (pi_seq (pv 0)) (pg_name (i := 2) sc_encode_texts.nd rfl (Or.inl rfl)) (pss_one (ps_expr (pe_bm PySem.F.plainAttrs_list PySem.F.slot_list_extend PySem.F.type_list_extend mt_extend (pv 1) (pa_cons (pe_call G_encode_text (hr.mono (by decide)) rfl T.g_encode_text T.F_encode_text.kp T.b_encode_text .nil (passes_call (takes_of rfl rfl rfl rfl) (fun _ _ _ _ x => x)) (pa_cons (pv 2) pa_nil)) pa_nil)))))
      (pss_one (ps_ret (pv 1))))), ?_⟩
  have hlen := hS.len
  rw [List.length_map] at hlen
  refine ⟨_, rfl, _, _, rfl, hlen, _, rfl, small_NB (by omega), fun _ p H1 s1 np hp => ?_, fun q => absurd q (by omega)⟩
  have hv := vint_len100 (small_NB (n := ts.length) (by omega))
  refine for_seq (a := a) (xs := ts.map V.str) (fun i σ H' => ∃ v2, σ = [some (.ref a), some (.ref p), v2] ∧ Same H H' ∧ (∀ t ∈ ts.take i, okT t) ∧ Li H' p (vint ts.length ++ (ts.take i).flatMap encT)) rfl hS s1 ⟨none, rfl, s1, fun c h => by simp at h, by simpa using hp⟩ (fun i σ H' _ ⟨_, _, h, _⟩ => h) ?_ ?_
  · rintro i x σ H' hx ⟨v2, rfl, sA, hok, hL⟩
    obtain ⟨t, ht, rfl⟩ := mem_str hx
    have hm := List.mem_of_getElem? ht
    have hi : i < ts.length := (List.getElem?_eq_some_iff.mp ht).1
    have hin := encTs_len (ts.take i) fun t h => hlt t (List.mem_of_mem_take h)
    rw [List.length_take] at hin
    refine ⟨_, rfl, .inl ⟨rfl, _, SqL.of hL⟩, _, rfl, t, rfl, by have := hlt t hm; omega, fun hk q H2 s2 nq hq => ?_, fun hk H2 s2 => h2 (fun z => hk (z t hm)) _ (sA.trans s2)⟩
    have het := encT_len (t := t) (by have := hlt t hm; omega)
    refine ⟨p, q, _, _, rfl, rfl, s2 _ _ hL, hq, (by rw [List.length_map, List.length_map, List.length_append]; exact szle (by omega)), ?_⟩
    refine ⟨_, rfl, same_mut (sA.trans s2) np, ?_, ?_⟩
    · rw [take_succ ht]
      intro d hd
      rcases List.mem_append.mp hd with z | z
      · exact hok d z
      · have : d = t := by simpa using z
        rw [this]
        exact hk
    · rw [take_succ ht, List.flatMap_append, ← List.append_assoc]
      show upd _ _ _ _ = _
      rw [upd_same, ← List.map_append]
      simp
  · rintro σ H' ⟨v2, rfl, sA, hok, hL⟩
    rw [List.length_map, List.take_length] at hok hL
    exact ⟨_, rfl, h1 hok p _ sA np hL⟩
def chr (d : Int) : Nat := AL.cps.toList.getD d.toNat 0
theorem al_len : AL.cps.toList.length = 38 := by decide +kernel
theorem al_ok : ∀ c ∈ AL.cps.toList, 0 ≤ codeI c := by decide +kernel
theorem chr_mem {d : Int} (h0 : 0 ≤ d) (h : d < 38) : chr d ∈ AL.cps.toList := by
  unfold chr
  rw [List.getD_eq_getElem?_getD, List.getElem?_eq_getElem (by rw [al_len]; omega)]
  exact List.getElem_mem _
theorem at_chr {d : Int} (h0 : 0 ≤ d) (h : d < 38) : atI AL.cps.toList d = some (chr d) := by
  have e : d = ((d.toNat : Nat) : Int) := by omega
  have k : AL.cps.toList[d.toNat]? = some (chr d) := by
    unfold chr
    rw [List.getD_eq_getElem?_getD, List.getElem?_eq_getElem (by rw [al_len]; omega)]
    rfl
  have := atI_nat k
  rw [← e] at this
  exact this
def ltxt (c : Int) (m : Nat) : Str := ⟨((draws c m 38).map chr).toArray⟩
theorem ltxt_len (c : Int) (m : Nat) : (ltxt c m).length = m := by
  rw [str_len]
  show ((draws c m 38).map chr).length = m
  rw [List.length_map, draws_len]
theorem ltxt_ok (c : Int) (m : Nat) : okT (ltxt c m) := by
  intro x hx
  have hx : x ∈ (draws c m 38).map chr := hx
  obtain ⟨d, hd, rfl⟩ := List.mem_map.mp hx
  have := draws_mem (c := c) (m := m) (l := 38) (by decide) d hd
  exact al_ok _ (chr_mem this.1 this.2)
abbrev sg (c : Nat) : Str := ⟨#[c]⟩
def sp__law_text (T : Env K mg) : Sp := fun vs H Q E => ∃ c m : Int, vs = [.int c, .int m] ∧ 0 ≤ m ∧ m ≤ 1000 ∧ ∀ H', Same H H' → Q (.str (ltxt c m.toNat)) H'
theorem ok__law_text (T : Env K mg) : FnOk P w K mg base (L2.CX P w) 2 T.a__law_text T.d__law_text ["cell", "many"] (sp__law_text T) := by
  refine T.F__law_text.okX sc__law_text (fun vs H Q E h => by obtain ⟨_, _, rfl, _⟩ := h; rfl) (fun cdv A outer s H vs Q E hr h => ?_)
  obtain ⟨c, m, rfl, hm, hm2, h1⟩ := h
  have hu64 := hu64_of hr
  have G__law_draws := ok__law_draws (P := P) (w := w) (base := base) T
  refine ⟨_, (pss_one (ps_ret (pe_join pe_str (pe_lc (own := [("code", 2)]) (by rfl) sc__law_text.nd (pi_list (pe_call G__law_draws (hr.mono (by decide)) rfl T.g__law_draws T.F__law_draws.kp T.b__law_draws .nil passL (pa_cons (pv 0) (pa_cons (pv 1) (pa_cons pe_int pa_nil))))) (blkOk_by (own := [("code", 2)]) (N := ["cell", "many", "code"]) (sc := defScope s__law_text) (by decide +kernel)) (fun _ _ _ _ _ => (pg_name (i := 2) sc__law_text.nd rfl (Or.inl rfl))) (fun _ _ _ _ _ => pts_nil) (fun _ _ _ _ _ => (pe_ix ix_str pe_str (pv 2) (fun _ _ => rfl))))))), ?_⟩
  refine ⟨⟨_, rfl⟩, _, rfl, _, rfl, c, m, 38, rfl, hm, by omega, by decide, by decide, fun p H1 s1 np hL => ?_⟩
  have hdl := draws_len c m.toNat 38
  refine ⟨p, rfl, ⟨_, SqL.of hL⟩, fun D hD => lc_list (K := K) (a := p) (xs := (draws c m.toNat 38).map V.int) (fun i H' => Same H1 H' ∧ H' D = some (.lst (((((draws c m.toNat 38).map chr).take i).map sg).map V.str))) ⟨same_new hD, upd_same⟩ (fun i H' _ h => SqL.of (h.1 _ _ hL)) ?_ ?_⟩
  · rintro i x H' hx ⟨hs, hl⟩
    obtain ⟨n, hn, rfl⟩ := mem_int hx
    have hi : i < (draws c m.toNat 38).length := (List.getElem?_eq_some_iff.mp hn).1
    have hmem := draws_mem (c := c) (m := m.toNat) (l := 38) (by decide) n (List.mem_of_getElem? hn)
    refine ⟨rfl, yes_if ?_⟩
    refine ⟨_, rfl, _, _, _, rfl, rfl, (by rw [str_len, al_len]; exact szle (by decide)), at_chr hmem.1 hmem.2, _, hl, szl (by rw [List.length_map, List.length_map, List.length_take, List.length_map]; omega), same_mut hs hD, ?_⟩
    rw [take_succ (show ((draws c m.toNat 38).map chr)[i]? = some (chr n) by rw [List.getElem?_map, hn]; rfl), List.map_append, List.map_append, upd_same]
    rfl
  · rintro H' ⟨hs, hl⟩
    rw [List.length_map, show (((draws c m.toNat 38).map chr).take (draws c m.toNat 38).length) = (draws c m.toNat 38).map chr from List.take_of_length_le (by rw [List.length_map]; exact Nat.le_refl _)] at hl
    refine ⟨_, _, ((draws c m.toNat 38).map chr).map sg, rfl, rfl, .inl (SqL.of hl), ?_, ?_⟩
    · have := sum_sg ((draws c m.toNat 38).map chr)
      show ((((draws c m.toNat 38).map chr).map fun c => (⟨#[c]⟩ : Str)).map (·.length)).sum + _ * 0 ≤ _
      rw [this, List.length_map]
      omega
    · show Q (.str (Txt.join Str.empty (((draws c m.toNat 38).map chr).map fun c => (⟨#[c]⟩ : Str)))) H'
      rw [join_sg]
      exact h1 _ (s1.trans (hs.trans (Same.refl _)))
/-! texts of the alphabet; lists of texts as data -/
def alT (t : Str) : Prop := ∀ c ∈ t.cps.toList, c ∈ AL.cps.toList
theorem alT.ok {t : Str} (h : alT t) : okT t := fun c hc => al_ok c (h c hc)
theorem al_small : ∀ c ∈ AL.cps.toList, c < 1114112 := by decide +kernel
theorem alT.strOk {t : Str} (h : alT t) : PyData.strOk t = true := by
  unfold PyData.strOk
  rw [Array.all_eq_true_iff_forall_mem]
  intro c hc
  exact decide_eq_true (al_small c (h c (Array.mem_toList_iff.mpr hc)))
theorem ltxt_al (c : Int) (m : Nat) : alT (ltxt c m) := by
  intro x hx
  have hx : x ∈ (draws c m 38).map chr := hx
  obtain ⟨d, hd, rfl⟩ := List.mem_map.mp hx
  have := draws_mem (c := c) (m := m) (l := 38) (by decide) d hd
  exact chr_mem this.1 this.2
def dStrs (ts : List Str) : PyData := .list (ts.map PyData.str)
theorem dp_all_strs {K : PySem.W.Frag} {H : Hp} : ∀ ts : List Str, DpAll K H (ts.map V.str) (ts.map PyData.str)
  | [] => .nil
  | n :: r => .cons (.str n) (dp_all_strs r)
theorem dp_strs {K : PySem.W.Frag} {H : Hp} {a : Addr} {ts : List Str} (h : SqL K H a (ts.map V.str)) : Dp K H (.ref a) (dStrs ts) := .lst h (dp_all_strs ts)
theorem good_strs : ∀ ts : List Str, (∀ t ∈ ts, alT t) → PyData.canLayAll0 (ts.map PyData.str) = true ∧ PyData.depthAll (ts.map PyData.str) = 0 ∧ PyData.eqvAll (ts.map PyData.str) (ts.map PyData.str) = true
  | [], _ => ⟨rfl, by rw [List.map_nil, PyData.depthAll], rfl⟩
  | t :: r, h => by
    obtain ⟨h1, h2, h3⟩ := good_strs r fun x hx => h x (List.mem_cons_of_mem _ hx)
    refine ⟨?_, ?_, ?_⟩
    · show (PyData.canLay0 (.str t) && PyData.canLayAll0 (r.map PyData.str)) = true
      rw [h1, show PyData.canLay0 (.str t) = true by unfold PyData.canLay0; exact (h t List.mem_cons_self).strOk]
      rfl
    · show PyData.depthAll (.str t :: r.map PyData.str) = 0
      rw [PyData.depthAll, h2, PyData.depth]
      rfl
    · show ((t == t) && PyData.eqvAll (r.map PyData.str) (r.map PyData.str)) = true
      rw [h3]
      simp
theorem shaped_strs {ts : List Str} (h : ∀ t ∈ ts, alT t) : SeqAt.shaped (dStrs ts) = true := by
  obtain ⟨h1, h2, _⟩ := good_strs ts h
  unfold SeqAt.shaped dStrs
  rw [show PyData.canLay0 (.list (ts.map PyData.str)) = true from by unfold PyData.canLay0; exact h1]
  have : PyData.depth (.list (ts.map PyData.str)) = 1 := by
    unfold PyData.depth
    rw [h2]
  rw [this]
  decide
theorem eqv_strs {ts : List Str} (h : ∀ t ∈ ts, alT t) : PyData.eqv (dStrs ts) (dStrs ts) = true := (good_strs ts h).2.2
theorem inV_str (k : Str) (ts : List Str) : inV (.str k) (ts.map V.str) = decide (k ∈ ts) := by
  unfold inV
  induction ts with
  | nil => simp
  | cons t r ih =>
    rw [List.map_cons, List.any_cons, ih]
    show ((t == k) || decide (k ∈ r)) = _
    by_cases e : t = k
    · subst e; simp
    · have e2 : ¬ k = t := fun q => e q.symm
      simp [e, e2]
theorem flat_strs (ts : List Str) : (ts.map V.str).all flatV = true := by
  induction ts with
  | nil => rfl
  | cons t r ih => rw [List.map_cons, List.all_cons, ih]; rfl
theorem cutS_len (z : Str) (lo hi : Option Int) : (cutS z lo hi).length ≤ z.length := by
  show (List.take _ (List.drop _ z.cps.toList)).length ≤ z.cps.toList.length
  rw [List.length_take, List.length_drop]
  omega
theorem app_len (a b : Str) : (a ++ b).length = a.length + b.length := by
  show (a.cps ++ b.cps).size = _
  rw [Array.size_append]
  rfl

--PART /work/steering/wip/parts/ascend.lean
/-! ### ascending texts -/
abbrev ltS (a b : Str) : Prop := a.cps.toList < b.cps.toList
theorem ltS_trans {a b c : Str} (h : ltS a b) (k : ltS b c) : ltS a c := List.lt_trans h k
theorem ltS_irrefl (a : Str) : ¬ ltS a a := List.lt_irrefl _
theorem str_ext {a b : Str} (h : a.cps.toList = b.cps.toList) : a = b := by
  obtain ⟨⟨x⟩⟩ := a
  obtain ⟨⟨y⟩⟩ := b
  have : x = y := h
  rw [this]
theorem ltS_of {a b : Str} (h : ¬ ltS b a) (n : a ≠ b) : ltS a b := Std.lt_of_le_of_ne h fun q => n (str_ext q)
theorem ltS_ne {b : Str} (h : ltS Str.empty b) : b ≠ Str.empty := fun q => ltS_irrefl _ (q ▸ h)
theorem ltS_empty {b : Str} (h : b ≠ Str.empty) : ltS Str.empty b := ltS_of (fun q => absurd q (List.not_lt_nil _)) (Ne.symm h)
def ascS : Str → List Str → Bool
  | _, [] => true
  | p, k :: r => decide (ltS p k) && ascS k r
theorem asc_pw : ∀ (p : Str) (ts : List Str), ascS p ts = true ↔ (p :: ts).Pairwise ltS
  | p, [] => by simp [ascS]
  | p, k :: r => by
    have ih := asc_pw k r
    show (decide (ltS p k) && ascS k r) = true ↔ _
    rw [Bool.and_eq_true, decide_eq_true_iff, ih]
    constructor
    · rintro ⟨h1, h2⟩
      exact List.pairwise_cons.mpr ⟨fun x hx => by
        rcases List.mem_cons.mp hx with e | e
        · rw [e]; exact h1
        · exact ltS_trans h1 ((List.pairwise_cons.mp h2).1 x e), h2⟩
    · intro h
      exact ⟨(List.pairwise_cons.mp h).1 k List.mem_cons_self, (List.pairwise_cons.mp h).2⟩
theorem rising_asc : ∀ (p : Str) (ys : List Str), risingS p ys = true → (p :: ys).Nodup → ascS p ys = true
  | _, [], _, _ => rfl
  | p, k :: r, h, hn => by
    have h : (!ltCps k.cps.toList p.cps.toList && risingS k r) = true := h
    rw [Bool.and_eq_true, ltCps_eq] at h
    have h1 : ¬ ltS k p := by simpa using h.1
    have hn2 := List.nodup_cons.mp hn
    show (decide (ltS p k) && ascS k r) = true
    rw [Bool.and_eq_true, decide_eq_true_iff]
    exact ⟨ltS_of h1 fun q => hn2.1 (q ▸ List.mem_cons_self), rising_asc k r h.2 hn2.2⟩
theorem sorted_asc {ys : List Str} (h : sortedS ys = true) (hn : ys.Nodup) (he : Str.empty ∉ ys) : ascS Str.empty ys = true := by
  cases ys with
  | nil => rfl
  | cons k r =>
    have h : risingS k r = true := h
    show (decide (ltS Str.empty k) && ascS k r) = true
    rw [Bool.and_eq_true, decide_eq_true_iff]
    exact ⟨ltS_empty fun q => he (q ▸ List.mem_cons_self), rising_asc k r h hn⟩
--PART /work/steering/wip/parts/decode.lean
/-! ### reading numbers -/
def scan : List Int → Option (List Int × List Int)
  | [] => none
  | b :: r => if 128 ≤ b then (scan r).map (fun p => (b :: p.1, p.2)) else some ([b], r)
def value : List Int → Int
  | [] => 0
  | b :: r => b % 128 + 128 * value r
def dec (ns : List Int) (i : Int) : Option (Int × Int) :=
  if i < 0 then none else match scan (ns.drop i.toNat) with
    | none => none
    | some (d, _) => if d.getLast? = some 0 ∧ 1 < d.length then none else some (value d, i + d.length)
theorem scan_pre : ∀ (pre l : List Int), (∀ b ∈ pre, 128 ≤ b) → scan (pre ++ l) = (scan l).map (fun p => (pre ++ p.1, p.2))
  | [], l, _ => by
    show scan l = _
    cases scan l with
    | none => rfl
    | some p => rfl
  | b :: pre, l, h => by
    show (if 128 ≤ b then (scan (pre ++ l)).map (fun p => (b :: p.1, p.2)) else _) = _
    rw [if_pos (h b (by simp)), scan_pre pre l fun x hx => h x (by simp [hx])]
    cases scan l with
    | none => rfl
    | some p => rfl
theorem scan_none {l : List Int} (h : ∀ b ∈ l, 128 ≤ b) : scan l = none := by
  have := scan_pre l [] h
  rw [List.append_nil] at this
  rw [this]
  rfl
theorem scan_stop (b : Int) (r : List Int) (h : ¬ 128 ≤ b) : scan (b :: r) = some ([b], r) := by
  show (if 128 ≤ b then _ else _) = _
  rw [if_neg h]
theorem scan_some : ∀ (l d t : List Int), scan l = some (d, t) → l = d ++ t ∧ d ≠ []
  | [], _, _, h => by cases h
  | b :: r, d, t, h => by
    by_cases c : 128 ≤ b
    · have e : scan (b :: r) = (scan r).map (fun p => (b :: p.1, p.2)) := by
        show (if 128 ≤ b then _ else _) = _
        rw [if_pos c]
      rw [e] at h
      cases k : scan r with
      | none => rw [k] at h; cases h
      | some p =>
        rw [k] at h
        have h2 : (b :: p.1, p.2) = (d, t) := Option.some.inj h
        have h3 := scan_some r p.1 p.2 k
        cases h2
        exact ⟨by rw [h3.1]; rfl, by simp⟩
    · rw [scan_stop b r c] at h
      have h2 : ([b], r) = (d, t) := Option.some.inj h
      cases h2
      exact ⟨rfl, by simp⟩
theorem value_snoc : ∀ (l : List Int) (b : Int), value (l ++ [b]) = value l + b % 128 * 128 ^ l.length
  | [], b => by
    show b % 128 + 128 * 0 = 0 + b % 128 * 128 ^ 0
    omega
  | a :: l, b => by
    show a % 128 + 128 * value (l ++ [b]) = a % 128 + 128 * value l + b % 128 * 128 ^ (l.length + 1)
    rw [value_snoc l b, Int.pow_succ, Int.mul_add, ← Int.mul_assoc, ← Int.mul_assoc, Int.mul_comm 128 (b % 128), Int.mul_assoc (b % 128) 128, Int.mul_assoc (b % 128), Int.mul_comm 128 (128 ^ l.length)]
    omega
theorem scan_vint : ∀ (k : Nat) (n : Int) (t : List Int), n.toNat < k → 0 ≤ n → scan (vint n ++ t) = some (vint n, t) ∧ value (vint n) = n ∧ (∀ b ∈ (vint n).dropLast, 128 ≤ b) ∧ ((vint n).getLast? = some 0 → (vint n).length = 1) ∧ (∃ l, vint n = (vint n).dropLast ++ [l] ∧ 0 ≤ l ∧ l < 128)
  | 0, n, t, h, _ => by omega
  | k + 1, n, t, h, h0 => by
    by_cases c : n < 128
    · rw [vint_lt c]
      exact ⟨scan_stop n t (by omega), by show n % 128 + 128 * 0 = n; omega, by simp, by simp, n, rfl, h0, c⟩
    · obtain ⟨i1, i2, i3, i4, l, i5, i6, i7⟩ := scan_vint k (n / 128) t (by omega) (by omega)
      rw [vint_ge c]
      have ne := vint_ne (n / 128)
      have e1 : ((n % 128 + 128) :: vint (n / 128)).dropLast = (n % 128 + 128) :: (vint (n / 128)).dropLast := by
        cases q : vint (n / 128) with
        | nil => exact absurd q ne
        | cons x r => rfl
      refine ⟨?_, ?_, ?_, ?_, l, ?_, i6, i7⟩
      · show (if 128 ≤ n % 128 + 128 then (scan (vint (n / 128) ++ t)).map _ else _) = _
        rw [if_pos (by omega), i1]
        rfl
      · show (n % 128 + 128) % 128 + 128 * value (vint (n / 128)) = n
        rw [i2]
        omega
      · rw [e1]
        intro b hb
        rcases List.mem_cons.mp hb with e | e
        · omega
        · exact i3 b e
      · intro hz
        rw [List.getLast?_cons_of_ne_nil ne] at hz
        have h1 := i4 hz
        by_cases c2 : n / 128 < 128
        · rw [vint_lt c2] at hz
          have : n / 128 = 0 := by simpa using hz
          omega
        · rw [vint_ge c2] at h1
          have := vint_pos (n / 128 / 128)
          rw [List.length_cons] at h1
          omega
      · rw [e1]
        show _ = (n % 128 + 128) :: ((vint (n / 128)).dropLast ++ [l])
        rw [← i5]
theorem dec_vint (pre t : List Int) {n : Int} (h : 0 ≤ n) : dec (pre ++ (vint n ++ t)) (pre.length : Nat) = some (n, ((pre.length : Nat) : Int) + ((vint n).length : Nat)) := by
  obtain ⟨h1, h2, h3, h4, h5⟩ := scan_vint _ n t (Nat.lt_succ_self _) h
  unfold dec
  rw [if_neg (by omega), Int.toNat_natCast, List.drop_left' rfl, h1]
  show (if (vint n).getLast? = some 0 ∧ 1 < (vint n).length then none else some (value (vint n), _)) = _
  rw [if_neg (fun q => by have := h4 q.1; omega), h2]
theorem dec_cut (pre : List Int) {n : Int} (h : 0 ≤ n) : dec (pre ++ (vint n).dropLast) pre.length = none := by
  obtain ⟨h1, h2, h3, h4, h5⟩ := scan_vint _ n [] (Nat.lt_succ_self _) h
  unfold dec
  rw [if_neg (by omega), Int.toNat_natCast, List.drop_left' rfl, scan_none h3]
theorem dec_long (pre : List Int) {n l : Int} (h : 0 ≤ n) (hl : 0 ≤ l) : dec (pre ++ ((vint n).dropLast ++ [l + 128, 0])) pre.length = none := by
  obtain ⟨h1, h2, h3, h4, h5⟩ := scan_vint _ n [] (Nat.lt_succ_self _) h
  have e : scan ((vint n).dropLast ++ [l + 128, 0]) = some ((vint n).dropLast ++ [l + 128, 0], []) := by
    rw [show (vint n).dropLast ++ [l + 128, 0] = ((vint n).dropLast ++ [l + 128]) ++ [0] by simp, scan_pre _ [0] (fun b hb => by
      rcases List.mem_append.mp hb with e | e
      · exact h3 b e
      · have : b = l + 128 := by simpa using e
        omega)]
    rfl
  unfold dec
  rw [if_neg (by omega), Int.toNat_natCast, List.drop_left' rfl, e]
  show (if ((vint n).dropLast ++ [l + 128, 0]).getLast? = some 0 ∧ 1 < ((vint n).dropLast ++ [l + 128, 0]).length then none else some _) = _
  rw [if_pos ⟨by simp, by simp⟩]
theorem dec_out (ns : List Int) {i : Int} (h : (ns.length : Int) ≤ i) : dec ns i = none := by
  unfold dec
  rw [if_neg (by omega), List.drop_of_length_le (by omega)]
  rfl
theorem dec_neg (ns : List Int) {i : Int} (h : i < 0) : dec ns i = none := if_pos h
def sp__check_index (T : Env K mg) : Sp := fun vs H Q E => ∃ (a : Addr) (ns : List Int) (i : Int), vs = [.ref a, .int i] ∧ SqL K H a (ns.map V.int) ∧ (0 ≤ i → i < ns.length → Q .non H) ∧ (i < 0 ∨ (ns.length : Int) ≤ i → E (.ref T.c_BadBytes) none H)
theorem ok__check_index (T : Env K mg) : FnOk P w K mg base (L2.CX P w) 1 T.a__check_index T.d__check_index ["block", "at"] (sp__check_index T) := by
  refine T.F__check_index.okX sc__check_index (fun vs H Q E h => by obtain ⟨_, _, _, rfl, _⟩ := h; rfl) (fun cdv A outer s H vs Q E hr h => ?_)
  obtain ⟨a, ns, i, rfl, hS, h1, h2⟩ := h
  refine ⟨_, (pss_one (ps_if (PW.pt (pw_or (pt_cmpR op_lt (pv 1) pe_int (nomark _)) (pw_or1 (pt_cmpR op_ge (pv 1) (pe_callB call_len (by rfl) T.z_len (by decide +kernel) (pa_cons (pv 0) pa_nil)) (nomark _))))) (pss_one (ps_raise rfl (takes_of rfl rfl rfl rfl) (pmk_own PySem.F.excBase_ValueError T.e_BadBytes.xP T.e_BadBytes.gC T.e_BadBytes.kC (raises_own T.e_BadBytes.bP T.e_BadBytes.tP) (by exact rfl)))) pss_nil)), ?_⟩
  refine ⟨_, rfl, _, _, rfl, rfl, _, rfl, iteD (fun c => iteT (h2 (.inl c))) (fun c => ?_)⟩
  refine ⟨_, rfl, _, rfl, _, _, rfl, .inl ⟨_, hS, rfl⟩, _, _, rfl, rfl, _, rfl, iteD (fun k => ?_) (fun k => ?_)⟩
  · rw [List.length_map] at k
    exact h2 (.inr k)
  · rw [List.length_map] at k
    exact h1 (by omega) (by omega)
def sp__last_index (T : Env K mg) : Sp := fun vs H Q E => ∃ (a : Addr) (ns : List Int) (i : Int), vs = [.ref a, .int i] ∧ SqL K H a (ns.map V.int) ∧
  (∀ d t, 0 ≤ i → scan (ns.drop i.toNat) = some (d, t) → Q (.int (i + d.length - 1)) H) ∧ (i < 0 ∨ scan (ns.drop i.toNat) = none → E (.ref T.c_BadBytes) none H)
theorem ok__last_index (T : Env K mg) : FnOk P w K mg base (L2.CX P w) 2 T.a__last_index T.d__last_index ["block", "at"] (sp__last_index T) := by
  refine T.F__last_index.okX sc__last_index (fun vs H Q E h => by obtain ⟨_, _, _, rfl, _⟩ := h; rfl) (fun cdv A outer s H vs Q E hr h => ?_)
  obtain ⟨a, ns, i, rfl, hS, h1, h2⟩ := h
  have hu64 := hu64_of hr
  have G__check_index := ok__check_index (P := P) (w := w) (base := base) T
  refine ⟨_, (pss_cons (ps_expr (pe_call G__check_index (hr.mono (by decide)) rfl T.g__check_index T.F__check_index.kp T.b__check_index .nil (passes_call (takes_of rfl rfl rfl rfl) (fun _ _ _ _ x => x)) (pa_cons (pv 0) (pa_cons (pv 1) pa_nil))))
      (pss_cons (ps_while (passes_of rfl) (pt_cmpR op_ge (pe_ix ix_list (pv 0) (pv 1) (fun _ _ => rfl)) pe_int (nomark _)) (pss_cons (ps_aug (i := 1) sc__last_index.nd rfl (Or.inl rfl) pe_int ip_add)
      (pss_one (ps_expr (pe_call G__check_index (hr.mono (by decide)) rfl T.g__check_index T.F__check_index.kp T.b__check_index .nil (passes_call (takes_of rfl rfl rfl rfl) (fun _ _ _ _ x => x)) (pa_cons (pv 0) (pa_cons (pv 1) pa_nil)))))))
      (pss_one (ps_ret (pv 1))))), ?_⟩
  refine ⟨_, rfl, _, rfl, a, ns, i, rfl, hS, fun hi0 hi1 => ?_, fun c => ?_⟩
  · obtain ⟨b0, r0, e0⟩ : ∃ b r, ns.drop i.toNat = b :: r := by
      cases q : ns.drop i.toNat with
      | nil =>
        have := congrArg List.length q
        rw [List.length_drop] at this
        simp at this
        omega
      | cons b r => exact ⟨b, r, rfl⟩
    refine ⟨fun m σ H' => ∃ (pre r : List Int) (b : Int), m = r.length ∧ σ = [some (.ref a), some (.int (i + pre.length))] ∧ H' = H ∧ ns.drop i.toNat = pre ++ b :: r ∧ ∀ x ∈ pre, 128 ≤ x, ⟨_, [], r0, b0, rfl, (by show _ = [some (V.ref a), some (V.int (i + 0))]; rw [Int.add_zero]; rfl), rfl, e0, by simp⟩, ?_⟩
    rintro m σ H' ⟨pre, r, b, rfl, rfl, rfl, he, hp⟩
    have hix : ns[i.toNat + pre.length]? = some b := by
      rw [← List.getElem?_drop, he, List.getElem?_append_right (Nat.le_refl _), Nat.sub_self]
      rfl
    have hlen : ns.length = i.toNat + pre.length + 1 + r.length := by
      have := congrArg List.length he
      rw [List.length_drop] at this
      simp at this
      omega
    refine ⟨_, rfl, _, rfl, a, _, _, _, rfl, rfl, hS, at_of (j := i.toNat + pre.length) (v := .int b) (by omega) (by rw [List.getElem?_map, hix]; rfl), _, _, rfl, rfl, _, rfl, iteD (fun c => ?_) (fun c => ?_)⟩
    · refine ⟨fun σ' H' => _, fun _ _ h => h, ?_⟩
      refine ⟨_, rfl, _, _, rfl, rfl, ?_⟩
      refine ⟨_, rfl, _, rfl, a, ns, i + pre.length + 1, rfl, hS, fun _ hj => ?_, fun hj => ?_⟩
      · obtain ⟨b1, r1, rfl⟩ : ∃ b1 r1, r = b1 :: r1 := by
          cases r with
          | nil => simp at hlen; omega
          | cons b1 r1 => exact ⟨b1, r1, rfl⟩
        refine ⟨r1.length, by simp, pre ++ [b], r1, b1, rfl, ?_, rfl, by rw [he]; simp, fun x hx => ?_⟩
        · rw [List.length_append]
          show [some (V.ref a), some (V.int (i + pre.length + 1))] = [some (V.ref a), some (V.int (i + ((pre.length + 1 : Nat) : Int)))]
          rw [show i + (pre.length : Int) + 1 = i + ((pre.length + 1 : Nat) : Int) by omega]
        · rcases List.mem_append.mp hx with e | e
          · exact hp x e
          · have : x = b := by simpa using e
            omega
      · have er : r = [] := by
          cases r with
          | nil => rfl
          | cons b1 r1 => simp at hlen; omega
        subst er
        refine h2 (.inr ?_)
        rw [he]
        refine scan_none fun x hx => ?_
        rcases List.mem_append.mp hx with e | e
        · exact hp x e
        · have : x = b := by simpa using e
          omega
    · have hs : scan (ns.drop i.toNat) = some (pre ++ [b], r) := by
        rw [he, scan_pre pre _ hp, scan_stop b r c]
        rfl
      have := h1 _ _ hi0 hs
      rw [List.length_append, show i + ((pre.length + [b].length : Nat) : Int) - 1 = i + pre.length by simp; omega] at this
      exact ⟨_, rfl, this⟩
  · refine h2 ?_
    rcases c with c | c
    · exact .inl c
    · refine .inr ?_
      rw [List.drop_of_length_le (by omega)]
      rfl
def sp_decode_number (T : Env K mg) : Sp := fun vs H Q E => ∃ (a : Addr) (ns : List Int) (i : Int), vs = [.ref a, .int i] ∧ SqL K H a (ns.map V.int) ∧
  (∀ v e, dec ns i = some (v, e) → ∀ p H', Same H H' → H p = none → H' p = some (.tup [.int v, .int e]) → Q (.ref p) H') ∧ (dec ns i = none → ∀ H', Same H H' → E (.ref T.c_BadBytes) none H')
theorem ok_decode_number (T : Env K mg) : FnOk P w K mg base (L2.CX P w) 3 T.a_decode_number T.d_decode_number ["block", "at"] (sp_decode_number T) := by
  refine T.F_decode_number.ok sc_decode_number (fun vs H Q E h => by obtain ⟨_, _, _, rfl, _⟩ := h; rfl) (fun cdv A outer s H vs Q E hr h => ?_)
  obtain ⟨a, ns, i, rfl, hS, h1, h2⟩ := h
  have hu64 := hu64_of hr
  have G__last_index := ok__last_index (P := P) (w := w) (base := base) T
  refine ⟨_, (pss_cons (ps_set (i := 2) sc_decode_number.nd rfl (Or.inl rfl) (pe_call G__last_index (hr.mono (by decide)) rfl T.g__last_index T.F__last_index.kp T.b__last_index .nil (passes_call (takes_of rfl rfl rfl rfl) (fun _ _ _ _ x => x)) (pa_cons (pv 0) (pa_cons (pv 1) pa_nil))))
      (pss_cons (ps_if (PW.pt (pw_and (pt_cmpR op_eq (pe_ix ix_list (pv 0) (pv 2) (fun _ _ => rfl)) pe_int (nomark _)) (pw_and1 (pt_cmpR op_gt (pv 2) (pv 1) (nomark _))))) (pss_one (ps_raise rfl (takes_of rfl rfl rfl rfl) (pmk_own PySem.F.excBase_ValueError T.e_BadBytes.xP T.e_BadBytes.gC T.e_BadBytes.kC (raises_own T.e_BadBytes.bP T.e_BadBytes.tP) (by exact rfl)))) pss_nil)
      (pss_cons (ps_set (i := 3) sc_decode_number.nd rfl (Or.inl rfl) pe_int)
      (pss_cons (ps_set (i := 4) sc_decode_number.nd rfl (Or.inl rfl) pe_int)
      (pss_cons (ps_for (passes_of rfl) rfl (pi_list (pe_slice sl_list (pv 0) (po_some (pv 1)) (po_some (pe_op op_add (pv 2) pe_int)))) (pg_name (i := 5) sc_decode_number.nd rfl (Or.inl rfl)) (pss_cons (ps_set (i := 3) sc_decode_number.nd rfl (Or.inl rfl) (pe_op op_add (pv 3) (pe_op op_mul (pe_op op_mod (pv 5) pe_int) (pv 4))))
      (pss_one (ps_set (i := 4) sc_decode_number.nd rfl (Or.inl rfl) (pe_op op_mul (pv 4) pe_int)))))
      (pss_one (ps_ret (pe_tup (pa_cons (pv 3) (pa_cons (pe_op op_add (pv 2) pe_int) pa_nil)))))))))), ?_⟩
  refine ⟨_, rfl, _, rfl, a, ns, i, rfl, hS, fun d t hi hs => ?_, fun c => ?_⟩
  · obtain ⟨he, hne⟩ := scan_some _ _ _ hs
    obtain ⟨d0, l, rfl⟩ : ∃ d0 l, d = d0 ++ [l] := ⟨d.dropLast, d.getLast hne, (List.dropLast_concat_getLast hne).symm⟩
    have hix : ns[i.toNat + d0.length]? = some l := by
      rw [← List.getElem?_drop, he, List.append_assoc, List.getElem?_append_right (Nat.le_refl _), Nat.sub_self]
      rfl
    have hlen : d0.length + 1 + t.length = ns.length - i.toNat := by
      have := congrArg List.length he
      rw [List.length_drop] at this
      simp at this
      omega
    have ed : dec ns i = if (d0 ++ [l]).getLast? = some 0 ∧ 1 < (d0 ++ [l]).length then none else some (value (d0 ++ [l]), i + (d0 ++ [l]).length) := by
      unfold dec
      rw [if_neg (by omega), hs]
    rw [List.length_append, show i + ((d0.length + [l].length : Nat) : Int) - 1 = i + d0.length by simp; omega]
    refine ⟨_, rfl, _, rfl, a, _, _, _, rfl, rfl, hS, at_of (j := i.toNat + d0.length) (v := .int l) (by omega) (by rw [List.getElem?_map, hix]; rfl), rfl, _, rfl, ?_⟩
    by_cases hg : l = 0 ∧ 0 < d0.length
    · refine ifT (decide_eq_true (by rw [hg.1])) ⟨_, rfl, _, rfl, _, _, rfl, rfl, _, rfl, ifT (decide_eq_true (by omega)) (h2 ?_ _ (Same.refl H))⟩
      rw [ed, if_pos ⟨by simp [hg.1], by simp; omega⟩]
    · suffices rest : _ by
        refine iteD (fun c => ?_) (fun c => ifF rfl rest)
        have c : l = 0 := V.int.inj c
        exact ⟨_, rfl, _, rfl, _, _, rfl, rfl, _, rfl, ifF (decide_eq_false (by omega)) rest⟩
      have ev : dec ns i = some (value (d0 ++ [l]), i + (d0.length + 1 : Nat)) := by
        rw [ed, if_neg (fun q => hg ⟨by simpa using q.1, by have := q.2; simp at this; omega⟩)]
        simp
      refine ⟨_, rfl, _, rfl, _, rfl, _, rfl, _, _, rfl, rfl, _, rfl, a, _, rfl, hS, fun p np => ?_⟩
      have ec : cutV (ns.map V.int) (some i) (some (i + d0.length + 1)) = (d0 ++ [l]).map V.int := by
        rw [show i = ((i.toNat : Nat) : Int) by omega, show ((i.toNat : Nat) : Int) + d0.length + 1 = ((i.toNat + d0.length + 1 : Nat) : Int) by omega, cut_fromto, ← List.map_drop, he, ← List.map_take, List.take_left' (by simp; omega)]
      rw [ec]
      refine ⟨p, rfl, ⟨_, SqL.of upd_same⟩, for_list (K := K) (a := p) (xs := (d0 ++ [l]).map V.int) (fun k σ H' => ∃ v5, σ = [some (.ref a), some (.int i), some (.int (i + d0.length)), some (.int (value ((d0 ++ [l]).take k))), some (.int (128 ^ k)), v5] ∧ k ≤ (d0 ++ [l]).length ∧ H' = upd H p (.lst ((d0 ++ [l]).map V.int))) ⟨none, rfl, Nat.zero_le _, rfl⟩ (fun k σ H' _ ⟨_, _, _, e⟩ => by rw [e]; exact SqL.of upd_same) ?_ ?_⟩
      · rintro k y σ H' hk ⟨v5, rfl, hkl, rfl⟩
        obtain ⟨n, hn, rfl⟩ := mem_int hk
        have hkl2 : k < (d0 ++ [l]).length := (List.getElem?_eq_some_iff.mp hn).1
        refine ⟨_, rfl, _, rfl, _, _, rfl, rfl, by show (0 : Int) < _; decide, _, rfl, _, _, rfl, rfl, .inl ⟨by omega, by omega⟩, _, _, rfl, rfl, ?_⟩
        refine ⟨_, rfl, _, _, rfl, rfl, .inr ⟨by decide, by decide⟩, ?_⟩
        refine ⟨some (.int n), ?_, hkl2, rfl⟩
        rw [take_succ hn, value_snoc, List.length_take, Nat.min_eq_left (by omega), Int.pow_succ]
        rfl
      · rintro σ H' ⟨v5, rfl, _, rfl⟩
        rw [List.length_map, List.take_length]
        refine ⟨_, rfl, _, rfl, _, _, rfl, rfl, (by show 2 ≤ sizeLine; decide), fun q nq => ?_⟩
        refine h1 _ _ ev q _ ((same_new np).trans (same_new nq)) ((same_new np).free nq) ?_
        rw [upd_same]
        show some (HO.tup [V.int (value (d0 ++ [l])), V.int (i + d0.length + 1)]) = _
        rw [show i + (d0.length : Int) + 1 = i + (d0.length + 1 : Nat) by omega]
  · refine h2 ?_ _ (Same.refl H)
    rcases c with c | c
    · exact dec_neg ns c
    · unfold dec
      split
      · rfl
      · rw [c]
/-! pairs of ints as data -/
def dPair (a b : Int) : PyData := .tuple [.int a, .int b]
theorem dp_pair {H : Hp} {p : Addr} {a b : Int} (h : SqT K H p [.int a, .int b]) : Dp K H (.ref p) (dPair a b) := .tup h (.cons (.int _) (.cons (.int _) .nil))
theorem shaped_pair (a b : Int) : SeqAt.shaped (dPair a b) = true := by
  unfold SeqAt.shaped dPair
  simp [PyData.canLay0, PyData.canLayAll0, PyData.depth, PyData.depthAll]
theorem eqv_pair (a b c d : Int) : PyData.eqv (dPair a b) (dPair c d) = decide (a = c ∧ b = d) := by
  show ((a == c) && ((b == d) && true)) = _
  by_cases h : a = c <;> by_cases h2 : b = d <;> simp [h, h2]

--PART /work/steering/wip/parts/dectxt.lean
/-! ### reading texts -/
def decT (ns : List Int) (i : Int) : Option (Str × Int) := match dec ns i with
  | none => none
  | some (n, s) => if s + n > (ns.length : Nat) then none else if ∀ c ∈ (ns.drop s.toNat).take n.toNat, c < 38 then some (⟨(((ns.drop s.toNat).take n.toNat).map chr).toArray⟩, s + n) else none
def decTs (ns : List Int) : Nat → Int → Option (List Str × Int)
  | 0, i => some ([], i)
  | k + 1, i => match decT ns i with
    | none => none
    | some (t, e) => (decTs ns k e).map fun p => (t :: p.1, p.2)
theorem value_nn' : ∀ d : List Int, 0 ≤ value d
  | [] => Int.le_refl _
  | b :: r => by
    have := value_nn' r
    show 0 ≤ b % 128 + 128 * value r
    omega
theorem dec_some' {ns : List Int} {i v s : Int} (h : dec ns i = some (v, s)) : 0 ≤ v ∧ 0 ≤ i ∧ i < s ∧ s ≤ (ns.length : Nat) := by
  unfold dec at h
  split at h
  · cases h
  · rename_i h0
    split at h
    · cases h
    · rename_i d t hs
      split at h
      · cases h
      · have h := Option.some.inj h
        cases h
        obtain ⟨he, hne⟩ := scan_some _ _ _ hs
        have hl := congrArg List.length he
        rw [List.length_drop, List.length_append] at hl
        have := List.length_pos_iff.mpr hne
        exact ⟨value_nn' _, by omega, by omega, by omega⟩
theorem scan_ext : ∀ (l d t r : List Int), scan l = some (d, t) → scan (l ++ r) = some (d, t ++ r)
  | [], _, _, _, h => by cases h
  | b :: l, d, t, r, h => by
    by_cases c : 128 ≤ b
    · have e : ∀ l, scan (b :: l) = (scan l).map (fun p => (b :: p.1, p.2)) := fun l => by
        show (if 128 ≤ b then _ else _) = _
        rw [if_pos c]
      rw [e] at h
      show scan (b :: (l ++ r)) = _
      rw [e]
      cases k : scan l with
      | none => rw [k] at h; cases h
      | some p =>
        rw [k] at h
        have h2 : (b :: p.1, p.2) = (d, t) := Option.some.inj h
        cases h2
        rw [scan_ext l p.1 p.2 r k]
        rfl
    · rw [scan_stop b l c] at h
      cases h
      show scan (b :: (l ++ r)) = _
      rw [scan_stop b _ c]
/-- what is read stays when bytes are put behind -/
theorem dec_ext {ns : List Int} {i v s : Int} (r : List Int) (h : dec ns i = some (v, s)) : dec (ns ++ r) i = some (v, s) := by
  have hb := dec_some' h
  unfold dec at h ⊢
  rw [if_neg (by omega)] at h ⊢
  rw [List.drop_append_of_le_length (by omega)]
  cases k : scan (ns.drop i.toNat) with
  | none => rw [k] at h; cases h
  | some p =>
    rw [k] at h
    rw [scan_ext _ p.1 p.2 r k]
    exact h
theorem decT_some {ns : List Int} {i : Int} {t : Str} {e : Int} (h : decT ns i = some (t, e)) : 0 ≤ i ∧ i < e ∧ e ≤ (ns.length : Nat) := by
  unfold decT at h
  cases k : dec ns i with
  | none => rw [k] at h; cases h
  | some p =>
    obtain ⟨n, s⟩ := p
    rw [k] at h
    have hb := dec_some' k
    simp only at h
    split at h
    · cases h
    · split at h
      · cases h
        omega
      · cases h
theorem decT_ext {ns : List Int} {i : Int} {t : Str} {e : Int} (r : List Int) (h : decT ns i = some (t, e)) : decT (ns ++ r) i = some (t, e) := by
  unfold decT at h ⊢
  cases k : dec ns i with
  | none => rw [k] at h; cases h
  | some p =>
    obtain ⟨n, s⟩ := p
    rw [k] at h
    rw [dec_ext r k]
    have hb := dec_some' k
    simp only at h ⊢
    split at h
    · cases h
    · rename_i c
      rw [if_neg (by rw [List.length_append]; omega)]
      rw [show ((ns ++ r).drop s.toNat).take n.toNat = (ns.drop s.toNat).take n.toNat by
        rw [List.drop_append_of_le_length (by omega), List.take_append_of_le_length (by rw [List.length_drop]; omega)]]
      exact h
theorem decTs_some : ∀ (ns : List Int) (k : Nat) (i : Int) (ts : List Str) (e : Int), decTs ns k i = some (ts, e) → i ≤ e ∧ ts.length = k ∧ (k = 0 → e = i) ∧ (0 < k → e ≤ (ns.length : Nat)) ∧ (ts.length : Int) ≤ e - i
  | ns, 0, i, ts, e, h => by
    cases h
    exact ⟨Int.le_refl _, rfl, fun _ => rfl, fun h => absurd h (by decide), by simp⟩
  | ns, k + 1, i, ts, e, h => by
    unfold decTs at h
    cases q : decT ns i with
    | none => rw [q] at h; cases h
    | some p =>
      obtain ⟨t, e1⟩ := p
      rw [q] at h
      simp only at h
      have hb := decT_some q
      cases q2 : decTs ns k e1 with
      | none => rw [q2] at h; cases h
      | some p2 =>
        rw [q2] at h
        cases h
        obtain ⟨h1, h2, h3, h4, h5⟩ := decTs_some ns k e1 p2.1 p2.2 q2
        refine ⟨by omega, by rw [List.length_cons, h2], fun z => absurd z (by omega), fun _ => ?_, by rw [List.length_cons]; omega⟩
        by_cases z : k = 0
        · have := h3 z; omega
        · exact h4 (by omega)
theorem decTs_ext : ∀ (ns r : List Int) (k : Nat) (i : Int) (ts : List Str) (e : Int), decTs ns k i = some (ts, e) → decTs (ns ++ r) k i = some (ts, e)
  | ns, r, 0, i, ts, e, h => h
  | ns, r, k + 1, i, ts, e, h => by
    unfold decTs at h ⊢
    cases q : decT ns i with
    | none => rw [q] at h; cases h
    | some p =>
      obtain ⟨t, e1⟩ := p
      rw [q] at h
      rw [decT_ext r q]
      simp only at h ⊢
      cases q2 : decTs ns k e1 with
      | none => rw [q2] at h; cases h
      | some p2 =>
        rw [q2] at h
        rw [decTs_ext ns r k e1 p2.1 p2.2 q2]
        exact h
/-! reading what was written -/
theorem chr_code : ∀ c ∈ AL.cps.toList, 0 ≤ codeI c ∧ codeI c < 38 ∧ chr (codeI c) = c := by decide +kernel
theorem decT_enc (pre r : List Int) {t : Str} (h : alT t) : decT (pre ++ (encT t ++ r)) (pre.length : Nat) = some (t, (((pre ++ encT t).length : Nat) : Int)) := by
  have e1 : pre ++ (encT t ++ r) = pre ++ (vint t.length ++ (t.cps.toList.map codeI ++ r)) := by
    unfold encT
    rw [List.append_assoc]
  unfold decT
  rw [e1, dec_vint pre _ (by omega)]
  have hl : ((t.cps.toList.map codeI).length : Nat) = t.length := by rw [List.length_map]; rfl
  have ed : (pre ++ (vint t.length ++ (t.cps.toList.map codeI ++ r))).drop (((pre.length : Nat) : Int) + ((vint (t.length : Int)).length : Nat)).toNat = t.cps.toList.map codeI ++ r := by
    rw [← List.append_assoc]
    exact List.drop_left' (by rw [List.length_append]; omega)
  have et : (t.cps.toList.map codeI ++ r).take ((t.length : Int)).toNat = t.cps.toList.map codeI := List.take_left' (by rw [hl]; omega)
  simp only
  rw [if_neg (by rw [List.length_append, List.length_append, List.length_append, hl]; omega), ed, et, if_pos (fun c hc => by
    obtain ⟨x, hx, rfl⟩ := List.mem_map.mp hc
    exact (chr_code x (h x hx)).2.1)]
  have em : (t.cps.toList.map codeI).map chr = t.cps.toList := by
    rw [List.map_map]
    exact (List.map_congr_left (fun x hx => (chr_code x (h x hx)).2.2)).trans (List.map_id _)
  rw [em]
  unfold encT
  rw [List.length_append, List.length_append, hl]
  congr 2
  omega
theorem decTs_enc : ∀ (ts : List Str) (pre r : List Int), (∀ t ∈ ts, alT t) → decTs (pre ++ (ts.flatMap encT ++ r)) ts.length (pre.length : Nat) = some (ts, (((pre ++ ts.flatMap encT).length : Nat) : Int))
  | [], pre, r, _ => by simp [decTs]
  | t :: ts, pre, r, h => by
    have ih := decTs_enc ts (pre ++ encT t) r fun x hx => h x (List.mem_cons_of_mem _ hx)
    rw [List.length_cons, List.flatMap_cons]
    unfold decTs
    rw [List.append_assoc, decT_enc pre _ (h t List.mem_cons_self)]
    simp only
    rw [← List.append_assoc, ih]
    simp [List.append_assoc]
def sp_decode_text (T : Env K mg) : Sp := fun vs H Q E => ∃ (a : Addr) (ns : List Int) (i : Int), vs = [.ref a, .int i] ∧ SqL K H a (ns.map V.int) ∧ ns.length ≤ 100000 ∧ (∀ b ∈ ns, 0 ≤ b) ∧
  (∀ t e, decT ns i = some (t, e) → ∀ p H', Same H H' → H p = none → H' p = some (.tup [.str t, .int e]) → Q (.ref p) H') ∧ (decT ns i = none → ∀ H', Same H H' → E (.ref T.c_BadBytes) none H')
theorem ok_decode_text (T : Env K mg) : FnOk P w K mg base (L2.CX P w) 4 T.a_decode_text T.d_decode_text ["block", "at"] (sp_decode_text T) := by
  refine T.F_decode_text.ok sc_decode_text (fun vs H Q E h => by obtain ⟨_, _, _, rfl, _⟩ := h; rfl) (fun cdv A outer s H vs Q E hr h => ?_)
  obtain ⟨a, ns, i, rfl, hS, hl, hnn, h1, h2⟩ := h
  have hu64 := hu64_of hr
  have G_decode_number := ok_decode_number (P := P) (w := w) (base := base) T
  refine ⟨_, (pss_cons (ps_asg (pe_call G_decode_number (hr.mono (by decide)) rfl T.g_decode_number T.F_decode_number.kp T.b2_decode_number T.v2_decode_number (passes_call (takes_of rfl rfl rfl rfl) (fun _ _ _ _ x => x)) (pa_cons (pv 0) (pa_cons (pv 1) pa_nil))) (pg_tup rfl (pgs_cons (pg_name (i := 2) sc_decode_text.nd rfl (Or.inl rfl)) (pgs_cons (pg_name (i := 3) sc_decode_text.nd rfl (Or.inl rfl)) pgs_nil))))
      (pss_cons (ps_set (i := 4) sc_decode_text.nd rfl (Or.inl rfl) (pe_op op_add (pv 3) (pv 2)))
      (pss_cons (ps_if (pt_cmpR op_gt (pv 4) (pe_callB call_len (by rfl) T.z_len (by decide +kernel) (pa_cons (pv 0) pa_nil)) (nomark _)) (pss_one (ps_raise rfl (takes_of rfl rfl rfl rfl) (pmk_own PySem.F.excBase_ValueError T.e_BadBytes.xP T.e_BadBytes.gC T.e_BadBytes.kC (raises_own T.e_BadBytes.bP T.e_BadBytes.tP) (by exact rfl)))) pss_nil)
      (pss_cons (ps_set (i := 5) sc_decode_text.nd rfl (Or.inl rfl) (pe_slice sl_list (pv 0) (po_some (pv 3)) (po_some (pv 4))))
      (pss_cons (ps_for (passes_of rfl) rfl (pi_list (pv 5)) (pg_name (i := 6) sc_decode_text.nd rfl (Or.inl rfl)) (pss_one (ps_if (pt_cmpR op_ge (pv 6) (pe_callB call_len (by rfl) T.z_len (by decide +kernel) (pa_cons (pe_glob rfl T.k_ALPHABET T.r_ALPHABET) pa_nil)) (nomark _)) (pss_one (ps_raise rfl (takes_of rfl rfl rfl rfl) (pmk_own PySem.F.excBase_ValueError T.e_BadBytes.xP T.e_BadBytes.gC T.e_BadBytes.kC (raises_own T.e_BadBytes.bP T.e_BadBytes.tP) (by exact rfl)))) pss_nil)))
      (pss_one (ps_ret (pe_tup (pa_cons (pe_join pe_str (pe_lc (own := [("code", 6)]) (by rfl) sc_decode_text.nd (pi_list (pv 5)) (blkOk_by (own := [("code", 6)]) (N := ["block", "at", "length", "start", "behind", "codes", "code"]) (sc := defScope s_decode_text) (by decide +kernel)) (fun _ _ _ _ _ => (pg_name (i := 6) sc_decode_text.nd rfl (Or.inl rfl))) (fun _ _ _ _ _ => pts_nil) (fun _ _ _ _ _ => (pe_ix ix_str (pe_glob rfl T.k_ALPHABET T.r_ALPHABET) (pv 6) (fun _ _ => rfl))))) (pa_cons (pv 4) pa_nil)))))))))), ?_⟩
  refine ⟨_, rfl, _, rfl, a, ns, i, rfl, hS, fun n st hd p1 H1 s1 np1 hp1 => ?_, fun hd H1 s1 => h2 (by unfold decT; rw [hd]) _ s1⟩
  have hb := dec_some' hd
  refine ⟨p1, _, rfl, SqT.of hp1, rfl, _, _, rfl, _, _, rfl, rfl, ?_⟩
  have hS1 := s1.seq hS
  refine ⟨_, rfl, _, rfl, _, _, rfl, rfl, ?_⟩
  refine ⟨_, rfl, _, rfl, _, _, rfl, .inl ⟨_, hS1, rfl⟩, _, _, rfl, rfl, _, rfl, iteD (fun c => ?_) (fun c => ?_)⟩
  · rw [List.length_map] at c
    exact h2 (by unfold decT; rw [hd]; exact if_pos c) _ s1
  rw [List.length_map] at c
  refine ⟨_, rfl, _, rfl, _, rfl, _, rfl, _, rfl, a, _, rfl, hS1, fun p2 np2 => ?_⟩
  have ec : cutV (ns.map V.int) (some st) (some (st + n)) = ((ns.drop st.toNat).take n.toNat).map V.int := by
    rw [show st = ((st.toNat : Nat) : Int) by omega, show ((st.toNat : Nat) : Int) + n = ((st.toNat + n.toNat : Nat) : Int) by omega, cut_fromto, List.map_take, List.map_drop]
    congr 1
    omega
  rw [ec]
  obtain ⟨cs, hcs⟩ : ∃ cs, (ns.drop st.toNat).take n.toNat = cs := ⟨_, rfl⟩
  have hcl : cs.length ≤ 100000 := by rw [← hcs, List.length_take, List.length_drop]; omega
  have hcn : ∀ c ∈ cs, 0 ≤ c := fun c h => hnn c (List.mem_of_mem_drop (List.mem_of_mem_take (hcs ▸ h)))
  have hdt : decT ns i = if ∀ c ∈ cs, c < 38 then some (⟨(cs.map chr).toArray⟩, st + n) else none := by
    unfold decT
    rw [hd]
    simp only
    rw [if_neg c, hcs]
  rw [hcs]
  have s2 := s1.trans (same_new (o := .lst (cs.map V.int)) np2)
  have hp2 : upd H1 p2 (.lst (cs.map V.int)) p2 = some (.lst (cs.map V.int)) := upd_same
  show tSeq _ _ _ _ (upd H1 p2 (.lst (cs.map V.int)))
  generalize upd H1 p2 (.lst (cs.map V.int)) = H2 at s2 hp2
  refine ⟨_, rfl, p2, rfl, ⟨_, SqL.of hp2⟩, for_list (K := K) (a := p2) (xs := cs.map V.int) (fun k σ H' => ∃ v6, σ = [some (.ref a), some (.int i), some (.int n), some (.int st), some (.int (st + n)), some (.ref p2), v6] ∧ H' = H2 ∧ ∀ c ∈ cs.take k, c < 38) ⟨none, rfl, rfl, fun c h => by simp at h⟩ (fun k σ H' _ ⟨_, _, e, _⟩ => by rw [e]; exact SqL.of hp2) ?_ ?_⟩
  · rintro k x σ H' hx ⟨v6, rfl, rfl, hk⟩
    obtain ⟨d, hd2, rfl⟩ := mem_int hx
    refine ⟨_, rfl, _, _, rfl, ⟨(by rw [str_len, al_len]; exact szle (by decide)), rfl⟩, _, _, rfl, rfl, _, rfl, iteD (fun c2 => ?_) (fun c2 => ?_)⟩
    · have c2 : d ≥ ((AL.length : Nat) : Int) := c2
      rw [str_len, al_len] at c2
      exact h2 (by rw [hdt, if_neg (fun q => by have := q d (List.mem_of_getElem? hd2); omega)]) _ s2
    · have c2 : ¬ d ≥ ((AL.length : Nat) : Int) := c2
      rw [str_len, al_len] at c2
      refine ⟨_, rfl, rfl, ?_⟩
      rw [take_succ hd2]
      intro c hc
      rcases List.mem_append.mp hc with z | z
      · exact hk c z
      · have : c = d := by simpa using z
        omega
  rintro σ HX ⟨v6, rfl, eX, hk⟩
  rw [eX]
  rw [List.length_map, List.take_length] at hk
  rw [if_pos hk] at hdt
  refine ⟨⟨_, rfl⟩, _, rfl, p2, rfl, ⟨_, SqL.of hp2⟩, fun D hD => lc_list (K := K) (a := p2) (xs := cs.map V.int) (fun i H' => Same H2 H' ∧ H' D = some (.lst ((((cs.map chr).take i).map sg).map V.str))) ⟨same_new hD, upd_same⟩ (fun i H' _ h => SqL.of (h.1 _ _ hp2)) ?_ ?_⟩
  · rintro j x H' hx ⟨hs, hl2⟩
    obtain ⟨d, hd2, rfl⟩ := mem_int hx
    have hj : j < cs.length := (List.getElem?_eq_some_iff.mp hd2).1
    have hm := List.mem_of_getElem? hd2
    refine ⟨rfl, yes_if ?_⟩
    refine ⟨_, rfl, _, _, _, rfl, rfl, (by rw [str_len, al_len]; exact szle (by decide)), at_chr (hcn d hm) (hk d hm), _, hl2, szl (by rw [List.length_map, List.length_map, List.length_take, List.length_map]; omega), same_mut hs hD, ?_⟩
    rw [take_succ (show (cs.map chr)[j]? = some (chr d) by rw [List.getElem?_map, hd2]; rfl), List.map_append, List.map_append, upd_same]
    rfl
  · rintro H' ⟨hs, hl2⟩
    rw [List.length_map, show ((cs.map chr).take cs.length) = cs.map chr from List.take_of_length_le (by rw [List.length_map]; exact Nat.le_refl _)] at hl2
    refine ⟨_, _, (cs.map chr).map sg, rfl, rfl, .inl (SqL.of hl2), ?_, ?_⟩
    · have := sum_sg (cs.map chr)
      show (((cs.map chr).map fun c => (⟨#[c]⟩ : Str)).map (·.length)).sum + _ * 0 ≤ _
      rw [this, List.length_map]
      omega
    · rw [show Txt.join (Str.ofString "") ((cs.map chr).map sg) = ⟨(cs.map chr).toArray⟩ from join_sg _]
      refine ⟨_, rfl, (by show 2 ≤ sizeLine; decide), fun p3 np3 => ?_⟩
      exact h1 _ _ hdt p3 _ (s2.trans (hs.trans (same_new np3))) ((s2.trans hs).free np3) upd_same
theorem decTs_in : ∀ (ns : List Int) (k : Nat) (i : Int), (ns.length : Int) < k + i → decTs ns k i = none ∨ k = 0
  | _, 0, _, _ => .inr rfl
  | ns, k + 1, i, h => .inl (by
    unfold decTs
    cases q : decT ns i with
    | none => rfl
    | some p =>
      obtain ⟨t, e⟩ := p
      have hb := decT_some q
      rcases decTs_in ns k e (by omega) with h1 | h1
      · simp only
        rw [h1]
        rfl
      · omega)
def decL (ns : List Int) (i : Int) : Option (List Str × Int) := match dec ns i with
  | none => none
  | some (n, s) => decTs ns n.toNat s
theorem decL_none {ns : List Int} {i : Int} (h : dec ns i = none) : decL ns i = none := by unfold decL; rw [h]
def sp_decode_texts (T : Env K mg) : Sp := fun vs H Q E => ∃ (a : Addr) (ns : List Int) (i : Int), vs = [.ref a, .int i] ∧ SqL K H a (ns.map V.int) ∧ ns.length ≤ 100000 ∧ (∀ b ∈ ns, 0 ≤ b) ∧
  (∀ ts e, decL ns i = some (ts, e) → ∀ p q H', Same H H' → H p = none → H q = none → p ≠ q → H' q = some (.tup (ts.map V.str)) → H' p = some (.tup [.ref q, .int e]) → Q (.ref p) H') ∧ (decL ns i = none → ∀ H', Same H H' → E (.ref T.c_BadBytes) none H')
theorem ok_decode_texts (T : Env K mg) : FnOk P w K mg base (L2.CX P w) 5 T.a_decode_texts T.d_decode_texts ["block", "at"] (sp_decode_texts T) := by
  refine T.F_decode_texts.ok sc_decode_texts (fun vs H Q E h => by obtain ⟨_, _, _, rfl, _⟩ := h; rfl) (fun cdv A outer s H vs Q E hr h => ?_)
  obtain ⟨a, ns, i, rfl, hS, hl, hnn, h1, h2⟩ := h
  have hu64 := hu64_of hr
  have G_decode_number := ok_decode_number (P := P) (w := w) (base := base) T
  have G_decode_text := ok_decode_text (P := P) (w := w) (base := base) T
  refine ⟨_, (pss_cons (ps_asg (pe_call G_decode_number (hr.mono (by decide)) rfl T.g_decode_number T.F_decode_number.kp T.b2_decode_number T.v2_decode_number (passes_call (takes_of rfl rfl rfl rfl) (fun _ _ _ _ x => x)) (pa_cons (pv 0) (pa_cons (pv 1) pa_nil))) (pg_tup rfl (pgs_cons (pg_name (i := 2) sc_decode_texts.nd rfl (Or.inl rfl)) (pgs_cons (pg_name (i := 3) sc_decode_texts.nd rfl (Or.inl rfl)) pgs_nil))))
      (pss_cons (ps_set (i := 4) sc_decode_texts.nd rfl (Or.inl rfl) (pe_lst pa_nil))
      (pss_cons (ps_while (passes_of rfl) (pt_cmpR op_lt (pe_callB call_len (by rfl) T.z_len (by decide +kernel) (pa_cons (pv 4) pa_nil)) (pv 2) (nomark _)) (pss_cons (ps_asg (pe_call G_decode_text (hr.mono (by decide)) rfl T.g_decode_text T.F_decode_text.kp T.b2_decode_text T.v2_decode_text (passes_call (takes_of rfl rfl rfl rfl) (fun _ _ _ _ x => x)) (pa_cons (pv 0) (pa_cons (pv 3) pa_nil))) (pg_tup rfl (pgs_cons (pg_name (i := 5) sc_decode_texts.nd rfl (Or.inl rfl)) (pgs_cons (pg_name (i := 3) sc_decode_texts.nd rfl (Or.inl rfl)) pgs_nil))))
      (pss_one (ps_expr (pe_bm PySem.F.plainAttrs_list PySem.F.slot_list_append PySem.F.type_list_append mt_append (pv 4) (pa_cons (pv 5) pa_nil))))))
      (pss_one (ps_ret (pe_tup (pa_cons (pe_callTy call_tuple_of (by rfl) T.z_tuple (by decide +kernel) (pa_cons (pv 4) pa_nil)) (pa_cons (pv 3) pa_nil)))))))), ?_⟩
  refine ⟨_, rfl, _, rfl, a, ns, i, rfl, hS, fun n st hd p1 H1 s1 np1 hp1 => ?_, fun hd H1 s1 => h2 (decL_none hd) _ s1⟩
  have hb := dec_some' hd
  have hL : decL ns i = decTs ns n.toNat st := by unfold decL; rw [hd]
  refine ⟨p1, _, rfl, SqT.of hp1, rfl, _, _, rfl, _, _, rfl, rfl, ?_⟩
  refine ⟨Nat.zero_le _, fun pt npt => ?_⟩
  have npt0 : H pt = none := s1.free npt
  refine ⟨fun m σ H' => ∃ v5 e, ∃ ts : List Str, m = (n - ts.length).toNat ∧ σ = [some (.ref a), some (.int i), some (.int n), some (.int e), some (.ref pt), v5] ∧ ts.length ≤ n.toNat ∧ st + ts.length ≤ e ∧ e ≤ ns.length ∧ decTs ns n.toNat st = (decTs ns (n.toNat - ts.length) e).map (fun p => (ts ++ p.1, p.2)) ∧ Same H H' ∧ H' pt = some (.lst (ts.map V.str)), ⟨_, none, st, [], rfl, rfl, Nat.zero_le _, by simp, hb.2.2.2, ?_, s1.trans (same_new npt), upd_same⟩, ?_⟩
  · show _ = (decTs ns (n.toNat - 0) st).map _
    rw [Nat.sub_zero]
    cases decTs ns n.toNat st <;> rfl
  rintro m σ H' ⟨v5, e, ts, rfl, rfl, hk, hse, hel, hdec, sA, hp⟩
  have hS' := sA.seq hS
  refine ⟨_, rfl, _, _, rfl, .inl ⟨_, SqL.of hp, rfl⟩, _, rfl, _, _, rfl, rfl, _, rfl, iteD (fun c => ?_) (fun c => ?_)⟩
  · rw [List.length_map] at c
    refine ⟨fun σ' H' => _, fun _ _ h => h, ?_⟩
    have hstep : n.toNat - ts.length = (n.toNat - (ts.length + 1)) + 1 := by omega
    refine ⟨_, rfl, _, rfl, a, ns, e, rfl, hS', hl, hnn, fun t e2 hq p2 H2 s2 np2 hp2 => ?_, fun hq H2 s2 => h2 ?_ _ (sA.trans s2)⟩
    · have hq2 := decT_some hq
      refine ⟨p2, _, rfl, SqT.of hp2, rfl, _, _, rfl, _, _, rfl, rfl, ?_⟩
      have hpt2 := s2 _ _ hp
      refine ⟨_, rfl, .inl ⟨rfl, _, SqL.of hpt2⟩, _, rfl, _, _, _, rfl, rfl, hpt2, szl (by rw [List.length_map]; omega), ?_⟩
      refine ⟨(n - ((ts ++ [t]).length : Nat)).toNat, by rw [List.length_append]; show (n - ((ts.length + 1 : Nat) : Int)).toNat < _; omega, _, e2, ts ++ [t], rfl, rfl, by rw [List.length_append]; show ts.length + 1 ≤ _; omega, by rw [List.length_append]; show st + ((ts.length + 1 : Nat) : Int) ≤ _; omega, hq2.2.2, ?_, same_mut (sA.trans s2) npt0, by rw [upd_same, List.map_append]; rfl⟩
      rw [hdec, hstep, List.length_append]
      show Option.map _ (decTs ns (n.toNat - (ts.length + 1) + 1) e) = Option.map _ (decTs ns (n.toNat - (ts.length + 1)) e2)
      rw [decTs, hq]
      simp only
      cases decTs ns (n.toNat - (ts.length + 1)) e2 <;> simp
    · rw [hL, hdec, hstep, decTs, hq]
      rfl
  · rw [List.length_map] at c
    have hnk : n.toNat - ts.length = 0 := by omega
    rw [hnk] at hdec
    refine ⟨_, rfl, pt, _, rfl, .inl ⟨SqL.of hp, fun q nq => ⟨_, rfl, (by show 2 ≤ sizeLine; decide), fun p np => ?_⟩⟩⟩
    have sq := same_new (o := .tup (ts.map V.str)) nq
    have hne : p ≠ q := (ne_of_none (upd_same (H := H') (a := q) (o := .tup (ts.map V.str))) np).symm
    refine h1 ts e (by rw [hL, hdec]; show some (ts ++ [], e) = _; rw [List.append_nil]) p q _ (sA.trans (sq.trans (same_new np))) ((sA.trans sq).free np) (sA.free nq) hne ?_ upd_same
    rw [upd_ne hne.symm, upd_same]

--PART /work/steering/wip/parts/dectxt2.lean
/-- cut blocks -/
theorem decT_short {P R : List Int} {i : Int} {t : Str} (h : decT (P ++ R) i = some (t, (((P ++ R).length : Nat) : Int))) (hr : 0 < R.length) : decT P i = none := by
  cases q : decT P i with
  | none => rfl
  | some p =>
    obtain ⟨t', e⟩ := p
    have hb := decT_some q
    have h2 := decT_ext R q
    rw [h] at h2
    cases h2
    rw [List.length_append] at hb
    omega
theorem decL_ext {ns : List Int} {i : Int} {ts : List Str} {e : Int} (r : List Int) (h : decL ns i = some (ts, e)) : decL (ns ++ r) i = some (ts, e) := by
  unfold decL at h ⊢
  cases k : dec ns i with
  | none => rw [k] at h; cases h
  | some p =>
    obtain ⟨n, s⟩ := p
    rw [k] at h
    rw [dec_ext r k]
    exact decTs_ext _ _ _ _ _ _ h
theorem decL_some {ns : List Int} {i : Int} {ts : List Str} {e : Int} (h : decL ns i = some (ts, e)) : 0 ≤ i ∧ i < e ∧ e ≤ (ns.length : Nat) := by
  unfold decL at h
  cases k : dec ns i with
  | none => rw [k] at h; cases h
  | some p =>
    obtain ⟨n, s⟩ := p
    rw [k] at h
    have hb := dec_some' k
    obtain ⟨h1, h2, h3, h4, h5⟩ := decTs_some _ _ _ _ _ h
    by_cases z : n.toNat = 0
    · have := h3 z; omega
    · have := h4 (by omega); omega
theorem decL_short {P R : List Int} {i : Int} {ts : List Str} (h : decL (P ++ R) i = some (ts, (((P ++ R).length : Nat) : Int))) (hr : 0 < R.length) : decL P i = none := by
  cases q : decL P i with
  | none => rfl
  | some p =>
    obtain ⟨t', e⟩ := p
    have hb := decL_some q
    have h2 := decL_ext R q
    rw [h] at h2
    cases h2
    rw [List.length_append] at hb
    omega
theorem decL_enc (pre r : List Int) {ts : List Str} (h : ∀ t ∈ ts, alT t) : decL (pre ++ (encTs ts ++ r)) (pre.length : Nat) = some (ts, (((pre ++ encTs ts).length : Nat) : Int)) := by
  unfold decL encTs
  rw [List.append_assoc, dec_vint pre _ (by omega)]
  have := decTs_enc ts (pre ++ vint (ts.length : Int)) r h
  simp only
  rw [Int.toNat_natCast, ← List.append_assoc, show ((pre.length : Nat) : Int) + ((vint (ts.length : Int)).length : Nat) = (((pre ++ vint (ts.length : Int)).length : Nat) : Int) by rw [List.length_append]; omega, this, List.append_assoc]
theorem encT_nn {t : Str} (h : okT t) (hl : t.length ≤ 100000) : ∀ b ∈ encT t, 0 ≤ b := by
  intro b hb
  rcases List.mem_append.mp hb with z | z
  · exact (vint_byte_NB (small_NB hl) (by omega) b z).1
  · obtain ⟨c, hc, rfl⟩ := List.mem_map.mp z
    exact h c hc
theorem decT_spoilt (pre : List Int) (t : Str) (j : Nat) (x : Int) (hj : j < t.length) (hx : ¬ x < 38) : decT (pre ++ (vint t.length ++ (t.cps.toList.map codeI).set j x)) (pre.length : Nat) = none := by
  unfold decT
  rw [dec_vint pre _ (by omega)]
  have hl : (((t.cps.toList.map codeI).set j x).length : Nat) = t.length := by rw [List.length_set, List.length_map]; rfl
  have ed : (pre ++ (vint t.length ++ (t.cps.toList.map codeI).set j x)).drop (((pre.length : Nat) : Int) + ((vint (t.length : Int)).length : Nat)).toNat = (t.cps.toList.map codeI).set j x := by
    rw [← List.append_assoc]
    exact List.drop_left' (by rw [List.length_append]; omega)
  have et : ((t.cps.toList.map codeI).set j x).take ((t.length : Int)).toNat = (t.cps.toList.map codeI).set j x := List.take_of_length_le (by rw [hl]; omega)
  simp only
  rw [if_neg (by rw [List.length_append, List.length_append, hl]; omega), ed, et, if_neg]
  intro q
  exact hx (q x (List.mem_iff_getElem.mpr ⟨j, by rw [hl]; exact hj, by simp⟩))
theorem bar_list : ∀ c ∈ ("A !-_:," : Str).cps.toList, ¬ 0 ≤ codeI c := by decide +kernel
theorem bar_len : ("A !-_:," : Str).cps.toList.length = 7 := by decide +kernel
theorem not_ok_in {c : Nat} {t : Str} (h : c ∈ t.cps.toList) (hc : ¬ 0 ≤ codeI c) : ¬ okT t := fun q => hc (q c h)
theorem mem_app (a b : Str) (c : Nat) (h : c ∈ a.cps.toList ∨ c ∈ b.cps.toList) : c ∈ (a ++ b).cps.toList := by
  show c ∈ (a.cps ++ b.cps).toList
  rw [Array.toList_append]
  exact List.mem_append.mpr h

--PART /work/steering/wip/parts/lcits.lean
/-- a comprehension over a text -/
theorem lc_its {t : Str} {g : TG} {tt : TT} {te : TE} {vs : List Nat} {σ : L2.St} {H1 : Hp} {D : Addr} {Qd : Hp → Prop} (Pv : Nat → Hp → Prop) (h0 : Pv 0 (upd H1 D (HO.lst [])))
    (hs : ∀ (i : Nat) (c : Nat) (H : Hp), t.cps.toList[i]? = some c → Pv i H → g (V.str ⟨#[c]⟩) (wipe σ vs) H fun σ2 H2 => wipe σ2 vs = wipe σ vs ∧ tt σ2 H2 fun b H3 => if b = true then te σ2 H3 fun y H4 => ∃ acc, H4 D = some (HO.lst acc) ∧ acc.length < sizeLine ∧ Pv (i + 1) (upd H4 D (HO.lst (acc ++ [y]))) else Pv (i + 1) H3)
    (hd : ∀ (H : Hp), Pv t.length H → Qd H) :
    ∃ W : Nat → Nat → Hp → Prop, (∃ m, W 0 m (upd H1 D (HO.lst []))) ∧ ∀ (i m : Nat) (H : Hp), W i m H → ((Its t).stop i H ∧ Qd H) ∨ ((Its t).go i H ∧ ∃ Nx : Hp → Prop, (∀ (H' : Hp), Nx H' → ∃ m', m' < m ∧ W (i + 1) m' H') ∧
      ∀ (x : V) (H' : Hp), (Its t).yld i H x H' → g x (wipe σ vs) H' fun σ2 H2 => wipe σ2 vs = wipe σ vs ∧ tt σ2 H2 fun b H3 => if b = true then te σ2 H3 fun y H4 => ∃ acc, H4 D = some (HO.lst acc) ∧ acc.length < sizeLine ∧ Nx (upd H4 D (HO.lst (acc ++ [y]))) else Nx H3) := by
  refine ⟨fun i m H => m = t.length - i ∧ i ≤ t.length ∧ Pv i H, ⟨_, rfl, Nat.zero_le _, h0⟩, ?_⟩
  rintro i m H ⟨rfl, hi, hp⟩
  by_cases k : i < t.length
  · refine .inr ⟨k, fun H' => Pv (i + 1) H', fun H' hq => ⟨_, by omega, rfl, k, hq⟩, ?_⟩
    rintro x H' ⟨rfl, c, hc, rfl⟩
    exact hs i c H' (by rw [Array.getElem?_toList]; exact hc) hp
  · have e : i = t.length := by omega
    subst e
    exact .inl ⟨Nat.le_refl _, hd H hp⟩

--PART /work/steering/wip/parts/k04.lean
def sp__law_code (T : Env K mg) : Sp := fun vs H Q E => ∃ c : Nat, vs = [.str ⟨#[c]⟩] ∧ 0 ≤ codeI c ∧ Q (.int (codeI c)) H
theorem ok__law_code (T : Env K mg) : FnOk P w K mg base (L2.CX P w) 1 T.a__law_code T.d__law_code ["char"] (sp__law_code T) := by
  refine T.F__law_code.okX sc__law_code (fun vs H Q E h => by obtain ⟨_, rfl, _⟩ := h; rfl) (fun cdv A outer s H vs Q E hr h => ?_)
  obtain ⟨c, rfl, hc, h1⟩ := h
  refine ⟨_, (pss_one (ps_ret (pe_m1 PySem.F.slot_str_index PySem.F.type_str_index mt_sindex pe_str (pv 0)))), ?_⟩
  have hf : codeI c = Txt.find AL ⟨#[c]⟩ := rfl
  unfold Txt.find at hf
  cases ho : Builtin.Str.occurrences AL ⟨#[c]⟩ 0 AL.length 1 with
  | nil =>
    rw [ho] at hf
    have hf : codeI c = -1 := hf
    omega
  | cons i rest =>
    rw [ho] at hf
    have hf : codeI c = (i : Int) := hf
    refine ⟨⟨_, rfl⟩, _, rfl, _, _, i, rest, rfl, rfl, ho, ?_⟩
    rw [← hf]
    exact h1
def sp__law_text_block (T : Env K mg) : Sp := fun vs H Q E => ∃ t : Str, vs = [.str t] ∧ okT t ∧ t.length ≤ 100000 ∧ ∀ p H', Same H H' → H p = none → Li H' p (encT t) → Q (.ref p) H'
theorem ok__law_text_block (T : Env K mg) : FnOk P w K mg base (L2.CX P w) 2 T.a__law_text_block T.d__law_text_block ["text"] (sp__law_text_block T) := by
  refine T.F__law_text_block.okX sc__law_text_block (fun vs H Q E h => by obtain ⟨_, rfl, _⟩ := h; rfl) (fun cdv A outer s H vs Q E hr h => ?_)
  obtain ⟨t, rfl, hok, hl, h1⟩ := h
  have hu64 := hu64_of hr
  have G__law_varint := ok__law_varint (P := P) (w := w) (base := base) T
  have G__law_code := ok__law_code (P := P) (w := w) (base := base) T
  refine ⟨_, (pss_one (ps_ret (pe_op op_cat (pe_call G__law_varint (hr.mono (by decide)) rfl T.g__law_varint T.F__law_varint.kp T.b__law_varint .nil passL (pa_cons (pe_callB call_len (by rfl) T.z_len (by decide +kernel) (pa_cons (pv 0) pa_nil)) pa_nil)) (pe_lc (own := [("char", 1)]) (by rfl) sc__law_text_block.nd (pi_str (pv 0)) (blkOk_by (own := [("char", 1)]) (N := ["text", "char"]) (sc := defScope s__law_text_block) (by decide +kernel)) (fun _ _ _ _ _ => (pg_name (i := 1) sc__law_text_block.nd rfl (Or.inl rfl))) (fun _ _ _ _ _ => pts_nil) (fun _ _ _ _ _ => (pe_call G__law_code (hr.mono (by decide)) rfl T.g__law_code T.F__law_code.kp T.b__law_code .nil passL (pa_cons (pv 1) pa_nil))))))), ?_⟩
  refine ⟨_, rfl, _, _, rfl, ⟨szle (by omega), rfl⟩, _, rfl, by omega, small_NB hl, fun p H1 s1 np hp => ?_⟩
  refine ⟨_, rfl, t, rfl, fun D hD => lc_its (t := t) (fun i H' => Same H1 H' ∧ Li H' D ((t.cps.toList.take i).map codeI)) ⟨same_new hD, upd_same⟩ ?_ ?_⟩
  · rintro i c H' hc ⟨sA, hL⟩
    have hi : i < t.length := (List.getElem?_eq_some_iff.mp hc).1
    refine ⟨rfl, yes_if ⟨_, rfl, c, rfl, hok c (List.mem_of_getElem? hc), _, hL, szl (by rw [List.length_map, List.length_map, List.length_take]; omega), same_mut sA hD, ?_⟩⟩
    rw [take_succ hc, List.map_append]
    exact li_push
  · rintro H' ⟨sA, hL⟩
    rw [str_len, List.take_length] at hL
    have hv := vint_len100 (small_NB hl)
    refine ⟨p, D, _, _, rfl, rfl, sA _ _ hp, hL, (by rw [List.length_map, List.length_map, List.length_map]; exact szle (by have : t.cps.toList.length = t.length := rfl; omega)), fun q nq => ?_⟩
    exact h1 q _ (s1.trans (sA.trans (same_new nq))) ((s1.trans sA).free nq) (by show upd _ _ _ _ = _; rw [upd_same, ← List.map_append]; rfl)
inductive Bad (K : PySem.W.Frag) (H : Hp) : Int → V → Int → Prop where
  | t0 (t : Str) (j : Int) (h : ¬ okT t) (hl : t.length ≤ 100000) : Bad K H 0 (.str t) j
  | t1 (a : Addr) (ts : List Str) (j : Int) (hS : SqL K H a (ts.map V.str)) (hl : ts.length ≤ 400) (ht : ∀ t ∈ ts, t.length ≤ 400) (h : ¬ ∀ t ∈ ts, okT t) : Bad K H 1 (.ref a) j
  | t2 (a : Addr) (ns : List Int) (j : Int) (hS : SqL K H a (ns.map V.int)) (hl : ns.length ≤ 100000) (hn : ∀ b ∈ ns, 0 ≤ b) (h : decT ns j = none) : Bad K H 2 (.ref a) j
  | t3 (a : Addr) (ns : List Int) (j : Int) (hS : SqL K H a (ns.map V.int)) (hl : ns.length ≤ 100000) (hn : ∀ b ∈ ns, 0 ≤ b) (h : decL ns j = none) : Bad K H 3 (.ref a) j
def sp__law_refused (T : Env K mg) : Sp := fun vs H Q E => ∃ (w : Int) (x : V) (j : Int), vs = [.int w, x, .int j] ∧ Bad K H w x j ∧ ∀ H', Same H H' → Q (.bl true) H'
theorem ok__law_refused (T : Env K mg) : FnOk P w K mg base (L2.CX P w) 6 T.a__law_refused T.d__law_refused ["which", "thing", "at"] (sp__law_refused T) := by
  refine T.F__law_refused.okX sc__law_refused (fun vs H Q E h => by obtain ⟨_, _, _, rfl, _⟩ := h; rfl) (fun cdv A outer s H vs Q E hr h => ?_)
  obtain ⟨w', x, j, rfl, hB, h1⟩ := h
  have hu64 := hu64_of hr
  have G_encode_text := ok_encode_text (P := P) (w := w) (base := base) T
  have G_encode_texts := ok_encode_texts (P := P) (w := w) (base := base) T
  have G_decode_text := ok_decode_text (P := P) (w := w) (base := base) T
  have G_decode_texts := ok_decode_texts (P := P) (w := w) (base := base) T
  refine ⟨_, (pss_cons (ps_try_as (i := 3) rfl rfl sc__law_refused.nd rfl rfl ⟨rfl, by decide, .inl T.e_MeridianError.gC⟩ takes0 (fun W pn xe tk po => (pss_one (ps_if (pt_cmpR op_eq (pv 0) pe_int (nomark _)) (pss_one (ps_expr (pe_callS G_encode_text (hr.mono (by decide)) rfl T.g_encode_text T.F_encode_text.kp T.b_encode_text (fun σ => passAt tk σ) (pa_cons (pv 1) pa_nil)))) (pss_one (ps_if (pt_cmpR op_eq (pv 0) pe_int (nomark _)) (pss_one (ps_expr (pe_callS G_encode_texts (hr.mono (by decide)) rfl T.g_encode_texts T.F_encode_texts.kp T.b_encode_texts (fun σ => passAt tk σ) (pa_cons (pv 1) pa_nil)))) (pss_one (ps_if (pt_cmpR op_eq (pv 0) pe_int (nomark _)) (pss_one (ps_expr (pe_callSD G_decode_text (hr.mono (by decide)) rfl T.g_decode_text T.F_decode_text.kp T.b2_decode_text T.v2_decode_text (fun σ => passAt tk σ) (pa_cons (pv 1) (pa_cons (pv 2) pa_nil))))) (pss_one (ps_expr (pe_callSD G_decode_texts (hr.mono (by decide)) rfl T.g_decode_texts T.F_decode_texts.kp T.b2_decode_texts T.v2_decode_texts (fun σ => passAt tk σ) (pa_cons (pv 1) (pa_cons (pv 2) pa_nil)))))))))))) (fun a oe cls d pn hz hf => (pss_one (ps_ret (pe_and (pe_cmpR op_eq (pe_callB (call_isG hz hf) (by rfl) T.z_isinstance (by decide +kernel) (pa_cons (pv 3) (pa_cons (pe_glob (v := .ref T.c_BadArgument) rfl T.e_BadArgument.gC rfl) pa_nil))) (pe_cmpR op_lt (pv 0) pe_int (nomark _)) (nomark _)) (pe_one (pe_cmpR op_eq (pe_callB (call_isG hz hf) (by rfl) T.z_isinstance (by decide +kernel) (pa_cons (pv 3) (pa_cons (pe_glob (v := .ref T.c_BadBytes) rfl T.e_BadBytes.gC rfl) pa_nil))) (pe_cmpR op_gt (pv 0) pe_int (nomark _)) (nomark _))))))))
      (pss_one (ps_ret pe_bl))), ?_⟩
  cases hB with
  | t0 t _ h hl =>
    refine ⟨_, rfl, rfl, _, rfl, ifT (decide_eq_true rfl) ?_⟩
    refine ⟨_, rfl, t, rfl, hl, fun c => absurd c h, fun _ H1 s1 => ⟨true, T.u_BadArgument_MeridianError, fun _ y _ => ?_, fun q => Bool.noConfusion q⟩⟩
    refine ⟨_, rfl, T.c_BadArgument, true, rfl, rfl, T.e_BadArgument.cP, .inl ⟨_, _, rfl, .own _, T.q_BadArgument_BadArgument, _, rfl, _, _, rfl, rfl, rfl, _, rfl, ?_⟩⟩
    refine ifT (by decide) ?_
    refine ⟨_, rfl, T.c_BadArgument, false, rfl, rfl, T.e_BadArgument.cP, .inl ⟨_, _, rfl, .own _, T.q_BadArgument_BadBytes, _, rfl, _, _, rfl, rfl, rfl, ?_⟩⟩
    exact h1 _ s1
  | t1 a ts _ hS hl ht h =>
    refine ⟨_, rfl, rfl, _, rfl, ifF (by decide) ?_⟩
    refine ⟨_, rfl, rfl, _, rfl, ifT (decide_eq_true rfl) ?_⟩
    refine ⟨_, rfl, a, ts, rfl, .inl hS, hl, ht, fun c => absurd c h, fun _ H1 s1 => ⟨true, T.u_BadArgument_MeridianError, fun _ y _ => ?_, fun q => Bool.noConfusion q⟩⟩
    refine ⟨_, rfl, T.c_BadArgument, true, rfl, rfl, T.e_BadArgument.cP, .inl ⟨_, _, rfl, .own _, T.q_BadArgument_BadArgument, _, rfl, _, _, rfl, rfl, rfl, _, rfl, ?_⟩⟩
    refine ifT (by decide) ?_
    refine ⟨_, rfl, T.c_BadArgument, false, rfl, rfl, T.e_BadArgument.cP, .inl ⟨_, _, rfl, .own _, T.q_BadArgument_BadBytes, _, rfl, _, _, rfl, rfl, rfl, ?_⟩⟩
    exact h1 _ s1
  | t2 a ns _ hS hl hn h =>
    refine ⟨_, rfl, rfl, _, rfl, ifF (by decide) ?_⟩
    refine ⟨_, rfl, rfl, _, rfl, ifF (by decide) ?_⟩
    refine ⟨_, rfl, rfl, _, rfl, ifT (decide_eq_true rfl) ?_⟩
    refine ⟨_, rfl, _, rfl, a, ns, _, rfl, hS, hl, hn, fun t e c => (by rw [h] at c; cases c), fun _ H1 s1 => ⟨true, T.u_BadBytes_MeridianError, fun _ y _ => ?_, fun q => Bool.noConfusion q⟩⟩
    refine ⟨_, rfl, T.c_BadBytes, false, rfl, rfl, T.e_BadBytes.cP, .inl ⟨_, _, rfl, .own _, T.q_BadBytes_BadArgument, _, rfl, _, _, rfl, rfl, rfl, _, rfl, ?_⟩⟩
    refine ifT (by decide) ?_
    refine ⟨_, rfl, T.c_BadBytes, true, rfl, rfl, T.e_BadBytes.cP, .inl ⟨_, _, rfl, .own _, T.q_BadBytes_BadBytes, _, rfl, _, _, rfl, rfl, rfl, ?_⟩⟩
    exact h1 _ s1
  | t3 a ns _ hS hl hn h =>
    refine ⟨_, rfl, rfl, _, rfl, ifF (by decide) ?_⟩
    refine ⟨_, rfl, rfl, _, rfl, ifF (by decide) ?_⟩
    refine ⟨_, rfl, rfl, _, rfl, ifF (by decide) ?_⟩
    refine ⟨_, rfl, _, rfl, a, ns, _, rfl, hS, hl, hn, fun t e c => (by rw [h] at c; cases c), fun _ H1 s1 => ⟨true, T.u_BadBytes_MeridianError, fun _ y _ => ?_, fun q => Bool.noConfusion q⟩⟩
    refine ⟨_, rfl, T.c_BadBytes, false, rfl, rfl, T.e_BadBytes.cP, .inl ⟨_, _, rfl, .own _, T.q_BadBytes_BadArgument, _, rfl, _, _, rfl, rfl, rfl, _, rfl, ?_⟩⟩
    refine ifT (by decide) ?_
    refine ⟨_, rfl, T.c_BadBytes, true, rfl, rfl, T.e_BadBytes.cP, .inl ⟨_, _, rfl, .own _, T.q_BadBytes_BadBytes, _, rfl, _, _, rfl, rfl, rfl, ?_⟩⟩
    exact h1 _ s1

--PART /work/steering/wip/parts/k04b.lean
def sp__law_ends (T : Env K mg) : Sp := fun vs H Q E => ∃ (a : Addr) (x : V) (e : Int), vs = [.ref a, .int e] ∧ H a = some (.tup [x, .int e]) ∧ Q (.bl true) H
theorem ok__law_ends (T : Env K mg) : FnOk P w K mg base (L2.CX P w) 2 T.a__law_ends T.d__law_ends ["actual", "end"] (sp__law_ends T) := by
  refine T.F__law_ends.okX sc__law_ends (fun vs H Q E h => by obtain ⟨_, _, _, rfl, _⟩ := h; rfl) (fun cdv A outer s H vs Q E hr h => ?_)
  obtain ⟨a, x, e, rfl, ha, h1⟩ := h
  have hu64 := hu64_of hr
  have G__law_is_int := ok__law_is_int (P := P) (w := w) (base := base) T
  refine ⟨_, (pss_one (ps_ret (pe_and (pe_callB call_isi (by rfl) T.z_isinstance (by decide +kernel) (pa_cons (pv 0) (pa_cons (pe_bltn (v := .ty "tuple") (by rfl) T.z_tuple (by decide +kernel) rfl) pa_nil))) (pe_and (pe_cmpR op_eq (pe_callB call_len (by rfl) T.z_len (by decide +kernel) (pa_cons (pv 0) pa_nil)) pe_int (nomark _)) (pe_and (pe_call G__law_is_int (hr.mono (by decide)) rfl T.g__law_is_int T.F__law_is_int.kp T.b__law_is_int .nil passL (pa_cons (pe_ix ix_tup (pv 0) pe_int (fun _ _ => rfl)) pa_nil)) (pe_one (pe_cmpR op_eq (pe_ix ix_tup (pv 0) pe_int (fun _ _ => rfl)) (pv 1) (nomark _)))))))), ?_⟩
  refine ⟨_, rfl, _, _, _, _, _, rfl, .ty _, .base (.tup ha), kit_ty (b := "tuple") (r := true) (by decide +kernel), _, rfl, iteT ?_⟩
  refine ⟨_, rfl, _, _, rfl, .inr ⟨_, SqT.of ha, rfl⟩, rfl, _, rfl, ifT (by simp) ?_⟩
  refine ⟨_, rfl, a, _, _, .int e, rfl, rfl, SqT.of ha, atI_nat (j := 1) rfl, e, rfl, _, rfl, iteT ?_⟩
  refine ⟨_, rfl, a, _, _, .int e, rfl, rfl, SqT.of ha, atI_nat (j := 1) rfl, _, rfl, rfl, ?_⟩
  rw [decide_eq_true rfl]
  exact h1
def sp__law_one (T : Env K mg) : Sp := fun vs H Q E => ∃ (t : Str) (a : Addr) (Hd : List Int) (pl : Int), vs = [.str t, .ref a, .int pl] ∧ alT t ∧ t.length ≤ 1000 ∧ Li H a Hd ∧ Hd.length ≤ 10 ∧ (∀ b ∈ Hd, 0 ≤ b) ∧ 0 ≤ pl ∧ ∀ H', Same H H' → Q (.bl true) H'
theorem ok__law_one (T : Env K mg) : FnOk P w K mg base (L2.CX P w) 7 T.a__law_one T.d__law_one ["text", "head", "place"] (sp__law_one T) := by
  refine T.F__law_one.okX sc__law_one (fun vs H Q E h => by obtain ⟨_, _, _, _, rfl, _⟩ := h; rfl) (fun cdv A outer s H vs Q E hr h => ?_)
  obtain ⟨t, a, Hd, pl, rfl, hal, htl, hA, hHl, hHn, hpl, h1⟩ := h
  have hu64 := hu64_of hr
  have G_decode_text := ok_decode_text (P := P) (w := w) (base := base) T
  have G__law_text_block := ok__law_text_block (P := P) (w := w) (base := base) T
  have G__law_refused := ok__law_refused (P := P) (w := w) (base := base) T
  have G_encode_text := ok_encode_text (P := P) (w := w) (base := base) T
  have G__law_ends := ok__law_ends (P := P) (w := w) (base := base) T
  refine ⟨_, (pss_cons (ps_set (i := 3) sc__law_one.nd rfl (Or.inl rfl) (pe_op op_cat (pv 1) (pe_call G__law_text_block (hr.mono (by decide)) rfl T.g__law_text_block T.F__law_text_block.kp T.b__law_text_block .nil passL (pa_cons (pv 0) pa_nil))))
      (pss_cons (ps_set (i := 4) sc__law_one.nd rfl (Or.inl rfl) (pe_call G_decode_text (hr.mono (by decide)) rfl T.g_decode_text T.F_decode_text.kp T.b2_decode_text T.v2_decode_text passL (pa_cons (pe_op op_cat (pv 3) (pe_lst (pa_cons pe_int pa_nil))) (pa_cons (pe_callB call_len (by rfl) T.z_len (by decide +kernel) (pa_cons (pv 1) pa_nil)) pa_nil))))
      (pss_cons (ps_if (PW.pt (pw_or (pt_cmpR (op_neD hu64) (pe_call G_encode_text (hr.mono (by decide)) rfl T.g_encode_text T.F_encode_text.kp T.b_encode_text .nil passL (pa_cons (pv 0) pa_nil)) (pe_call G__law_text_block (hr.mono (by decide)) rfl T.g__law_text_block T.F__law_text_block.kp T.b__law_text_block .nil passL (pa_cons (pv 0) pa_nil)) (nomark _)) (pw_or (pt_not (pt_val (pe_call G__law_ends (hr.mono (by decide)) rfl T.g__law_ends T.F__law_ends.kp T.b__law_ends .nil passL (pa_cons (pv 4) (pa_cons (pe_callB call_len (by rfl) T.z_len (by decide +kernel) (pa_cons (pv 3) pa_nil)) pa_nil))))) (pw_or1 (pt_cmpR op_ne (pe_ix ix_tup (pv 4) pe_int (fun _ _ => rfl)) (pv 0) (nomark _)))))) (pss_one (ps_ret pe_bl)) pss_nil)
      (pss_cons (ps_set (i := 5) sc__law_one.nd rfl (Or.inl rfl) (pe_op op_mod (pe_callTy call_int1 (by rfl) T.z_int (by decide +kernel) (pa_cons (pv 2) pa_nil)) (pe_op op_add (pe_callB call_len (by rfl) T.z_len (by decide +kernel) (pa_cons (pv 0) pa_nil)) pe_int)))
      (pss_cons (ps_set (i := 6) sc__law_one.nd rfl (Or.inl rfl) (pe_ix ix_str pe_str (pe_op op_mod (pe_callTy call_int1 (by rfl) T.z_int (by decide +kernel) (pa_cons (pv 2) pa_nil)) pe_int) (fun _ _ => rfl)))
      (pss_cons (ps_if (pt_not (pt_val (pe_call G__law_refused (hr.mono (by decide)) rfl T.g__law_refused T.F__law_refused.kp T.b__law_refused .nil passL (pa_cons pe_int (pa_cons (pe_op op_add_str (pe_op op_add_str (pe_slice sl_str (pv 0) po_none (po_some (pv 5))) (pv 6)) (pe_slice sl_str (pv 0) (po_some (pv 5)) po_none)) (pa_cons pe_int pa_nil)))))) (pss_one (ps_ret pe_bl)) pss_nil)
      (pss_cons (ps_if (PW.pt (pw_or (pt_not (pt_val (pe_call G__law_refused (hr.mono (by decide)) rfl T.g__law_refused T.F__law_refused.kp T.b__law_refused .nil passL (pa_cons pe_int (pa_cons (pe_slice sl_list (pv 3) po_none (po_some (pe_un un_neg pe_int))) (pa_cons (pe_callB call_len (by rfl) T.z_len (by decide +kernel) (pa_cons (pv 1) pa_nil)) pa_nil)))))) (pw_or1 (pt_not (pt_val (pe_call G__law_refused (hr.mono (by decide)) rfl T.g__law_refused T.F__law_refused.kp T.b__law_refused .nil passL (pa_cons pe_int (pa_cons (pv 3) (pa_cons (pe_callB call_len (by rfl) T.z_len (by decide +kernel) (pa_cons (pv 3) pa_nil)) pa_nil))))))))) (pss_one (ps_ret pe_bl)) pss_nil)
      (pss_cons (ps_if (pt_cmpR op_ne (pv 0) pe_str (nomark _)) (pss_cons (ps_set (i := 7) sc__law_one.nd rfl (Or.inl rfl) (pe_callTy call_list_of (by rfl) T.z_list (by decide +kernel) (pa_cons (pv 3) pa_nil)))
      (pss_cons (ps_asg (pe_op op_add pe_int (pe_op op_mod (pe_callTy call_int1 (by rfl) T.z_int (by decide +kernel) (pa_cons (pv 2) pa_nil)) pe_int)) (pg_sub (pv 7) (pe_op op_sub (pe_op op_sub (pe_callB call_len (by rfl) T.z_len (by decide +kernel) (pa_cons (pv 3) pa_nil)) pe_int) (pe_op op_mod (pe_callTy call_int1 (by rfl) T.z_int (by decide +kernel) (pa_cons (pv 2) pa_nil)) (pe_callB call_len (by rfl) T.z_len (by decide +kernel) (pa_cons (pv 0) pa_nil)))) set_list))
      (pss_one (ps_ret (pe_call G__law_refused (hr.mono (by decide)) rfl T.g__law_refused T.F__law_refused.kp T.b__law_refused .nil passL (pa_cons pe_int (pa_cons (pv 7) (pa_cons (pe_callB call_len (by rfl) T.z_len (by decide +kernel) (pa_cons (pv 1) pa_nil)) pa_nil)))))))) pss_nil)
      (pss_one (ps_ret pe_bl)))))))))), ?_⟩
  have hel := encT_le (t := t) (by omega)
  have hen := encT_nn hal.ok (by omega)
  refine ⟨_, rfl, _, rfl, t, rfl, hal.ok, by omega, fun p H1 s1 np hp => ⟨a, p, _, _, rfl, rfl, s1 _ _ hA, hp, (by rw [List.length_map, List.length_map]; exact szle (by omega)), fun pb npb => ?_⟩⟩
  rw [← List.map_append]
  obtain ⟨B, hB⟩ : ∃ B, Hd ++ encT t = B := ⟨_, rfl⟩
  have hBl : B.length ≤ 1110 := by rw [← hB, List.length_append]; omega
  have hBn : ∀ b ∈ B, 0 ≤ b := fun b h => by
    rw [← hB] at h
    rcases List.mem_append.mp h with z | z
    · exact hHn b z
    · exact hen b z
  have hdB : ∀ r, decT (B ++ r) (Hd.length : Nat) = some (t, ((B.length : Nat) : Int)) := fun r => by
    rw [← hB, List.append_assoc]
    exact decT_enc Hd r hal
  have hPB : upd H1 pb (.lst (B.map V.int)) pb = some (.lst (B.map V.int)) := upd_same
  have s2 := s1.trans (same_new (o := .lst (B.map V.int)) npb)
  rw [hB]
  show tSeq _ _ _ _ (upd H1 pb (.lst (B.map V.int)))
  generalize upd H1 pb (.lst (B.map V.int)) = H2 at hPB s2
  -- back
  refine ⟨_, rfl, (by show 1 ≤ sizeLine; decide), fun q nq => ?_⟩
  have z1 := same_new (o := .lst ([200].map V.int)) nq
  refine ⟨pb, q, _, _, rfl, rfl, z1 _ _ hPB, upd_same, (by rw [List.length_map]; exact szle (by show B.length + 1 ≤ _; omega)), fun q2 nq2 => ?_⟩
  have z2 := z1.trans (same_new (o := .lst (B.map V.int ++ [200].map V.int)) nq2)
  have hA2 := s2 _ _ hA
  refine ⟨_, rfl, _, _, rfl, .inl ⟨_, SqL.of (z2 _ _ hA2), rfl⟩, ?_⟩
  rw [List.length_map]
  refine ⟨q2, B ++ [200], ((Hd.length : Nat) : Int), rfl, SqL.of (by rw [upd_same, List.map_append]; rfl), (by rw [List.length_append]; exact (by show B.length + 1 ≤ _; omega)), ?_, fun t' e' hd pk H3 s3 npk hpk => ?_, fun c => by rw [hdB] at c; cases c⟩
  · intro b h
    rcases List.mem_append.mp h with z | z
    · exact hBn b z
    · have : b = 200 := by simpa using z
      omega
  rw [hdB] at hd
  cases hd
  have s23 := z2.trans s3
  have hA3 := s23 _ _ hA2
  have hPB3 := s23 _ _ hPB
  have sH3 := s2.trans s23
  clear z1 z2 s3 s23
  -- the first test
  refine ⟨_, rfl, t, rfl, by omega, fun _ p1 H4 s4 np1 hp1 => ⟨_, rfl, t, rfl, hal.ok, by omega, fun p2 H5 s5 np2 hp2 => ⟨_, _, dp_ints (SqL.of (s5 _ _ hp1)), dp_ints (SqL.of hp2), shaped_dInts _, shaped_dInts _, _, rfl, ifF (by rw [eqv_dInts]; simp) ?_⟩⟩, fun c => absurd hal.ok c⟩
  have s35 := s4.trans s5
  have hpk5 := s35 _ _ hpk
  have hPB5 := s35 _ _ hPB3
  have hA5 := s35 _ _ hA3
  have sH5 := sH3.trans s35
  refine ⟨_, rfl, _, rfl, _, _, rfl, .inl ⟨_, SqL.of hPB5, rfl⟩, pk, .str t, _, rfl, (by rw [List.length_map]; exact hpk5), _, rfl, ifF rfl ?_⟩
  refine ⟨_, rfl, pk, _, _, .str t, rfl, rfl, SqT.of hpk5, atI_nat (j := 0) rfl, _, rfl, rfl, _, rfl, ifF (by simp) ?_⟩
  -- at
  refine ⟨_, rfl, .inl ⟨_, rfl, _, rfl, _, _, rfl, ⟨szle (by omega), rfl⟩, _, _, rfl, rfl, _, _, rfl, rfl, by show (0 : Int) < _; omega, ?_⟩⟩
  have hat0 := Int.emod_nonneg pl (b := ((t.length : Nat) : Int) + 1) (by omega)
  -- strange
  obtain ⟨c, hc⟩ : ∃ c, (("A !-_:," : Str).cps.toList)[(pl % 7).toNat]? = some c := ⟨_, List.getElem?_eq_getElem (by rw [bar_len]; omega)⟩
  have hcb := bar_list c (List.mem_of_getElem? hc)
  have hcat : atI ("A !-_:," : Str).cps.toList (pl % 7) = some c := by
    have := atI_nat hc
    rw [show (((pl % 7).toNat : Nat) : Int) = pl % 7 by omega] at this
    exact this
  refine ⟨_, rfl, .inl ⟨_, rfl, _, _, rfl, rfl, by show (0 : Int) < _; decide, _, _, c, rfl, rfl, (by rw [str_len, bar_len]; exact szle (by decide)), hcat, ?_⟩⟩
  have hl1 := cutS_len t none (some (pl % (((t.length : Nat) : Int) + 1)))
  have hl2 := cutS_len t (some (pl % (((t.length : Nat) : Int) + 1))) none
  refine ⟨_, rfl, _, rfl, _, rfl, _, rfl, szle (by omega), _, rfl, _, _, rfl, rfl, (by exact szle (by show (cutS t none _).length + 1 ≤ _; omega)), ?_⟩
  have hl3 := app_len (cutS t none (some (pl % (((t.length : Nat) : Int) + 1)))) ⟨#[c]⟩
  have hl3 : (cutS t none (some (pl % (((t.length : Nat) : Int) + 1))) ++ (⟨#[c]⟩ : Str)).length = (cutS t none (some (pl % (((t.length : Nat) : Int) + 1)))).length + 1 := hl3
  refine ⟨_, rfl, _, rfl, _, rfl, _, rfl, szle (by omega), _, _, rfl, rfl, (by exact szle (by omega)), ?_⟩
  refine ⟨0, _, 0, rfl, .t0 _ _ (not_ok_in (c := c) (mem_app _ _ _ (.inl (mem_app _ _ _ (.inr (by simp))))) hcb) (by rw [app_len]; omega), fun H6 s6 => ⟨_, rfl, ifF rfl ?_⟩⟩
  have hPB6 := s6 _ _ hPB5
  have hA6 := s6 _ _ hA5
  have sH6 := sH5.trans s6
  -- cut blocks
  have hBp : 0 < B.length := by
    rw [← hB, List.length_append]
    unfold encT
    rw [List.length_append]
    have := vint_pos (t.length : Int)
    omega
  have hBc : B = B.take (B.length - 1) ++ B.drop (B.length - 1) := (List.take_append_drop _ _).symm
  have hdc : decT (B.take (B.length - 1)) (Hd.length : Nat) = none := by
    refine decT_short (R := B.drop (B.length - 1)) (t := t) ?_ (by rw [List.length_drop]; omega)
    rw [← hBc]
    have := hdB []
    rw [List.append_nil] at this
    exact this
  refine ⟨_, rfl, _, rfl, _, rfl, pb, _, rfl, SqL.of hPB6, fun q6 nq6 => ?_⟩
  rw [show cutV (B.map V.int) none (some (-1)) = (B.take (B.length - 1)).map V.int by rw [show (-1 : Int) = -((1 : Nat) : Int) from rfl, cut_ton _ 1 (by decide), List.length_map, List.map_take]]
  have z1 := same_new (o := .lst ((B.take (B.length - 1)).map V.int)) nq6
  refine ⟨_, rfl, _, _, rfl, .inl ⟨_, SqL.of (z1 _ _ hA6), rfl⟩, ?_⟩
  rw [List.length_map]
  refine ⟨2, _, _, rfl, .t2 q6 (B.take (B.length - 1)) _ (SqL.of upd_same) (by rw [List.length_take]; omega) (fun b h => hBn b (List.mem_of_mem_take h)) hdc, fun H7 s7 => ⟨_, rfl, ifF rfl ?_⟩⟩
  have s67 := z1.trans s7
  have hPB7 := s67 _ _ hPB6
  have hA7 := s67 _ _ hA6
  have sH7 := sH6.trans s67
  refine ⟨_, rfl, _, rfl, _, _, rfl, .inl ⟨_, SqL.of hPB7, rfl⟩, ?_⟩
  rw [List.length_map]
  refine ⟨2, _, _, rfl, .t2 pb B _ (SqL.of hPB7) (by omega) hBn (by unfold decT; rw [dec_out B (Int.le_refl _)]), fun H8 s8 => ⟨_, rfl, ifF rfl ?_⟩⟩
  have hPB8 := s8 _ _ hPB7
  have hA8 := s8 _ _ hA7
  have sH8 := sH7.trans s8
  -- spoilt
  refine ⟨_, rfl, rfl, _, rfl, ?_⟩
  by_cases ht0 : t = Str.empty
  · exact ifF (by rw [ht0]; decide +kernel) (h1 _ sH8)
  have htp : 0 < t.length := by
    rcases Nat.eq_zero_or_pos t.length with z | z
    · exact absurd (str_ext (b := Str.empty) (List.length_eq_zero_iff.mp z)) ht0
    · exact z
  refine ifT (by show (!decide (V.str t = V.str Str.empty)) = true; rw [decide_eq_false (fun q => ht0 (V.str.inj q))]; rfl) ?_
  refine ⟨_, rfl, pb, _, rfl, .inl (SqL.of hPB8), fun ps nps => ?_⟩
  have z2 := same_new (o := .lst (B.map V.int)) nps
  obtain ⟨m, hm, hml⟩ : ∃ m : Nat, pl % ((t.length : Nat) : Int) = (m : Int) ∧ m < t.length := ⟨(pl % ((t.length : Nat) : Int)).toNat, by
    have := Int.emod_nonneg pl (b := ((t.length : Nat) : Int)) (by omega)
    omega, by
    have := Int.emod_lt_of_pos pl (b := ((t.length : Nat) : Int)) (by omega)
    have := Int.emod_nonneg pl (b := ((t.length : Nat) : Int)) (by omega)
    omega⟩
  have hB2 : B = Hd ++ (vint t.length ++ t.cps.toList.map codeI) := by rw [← hB]; rfl
  have hBlen : B.length = Hd.length + ((vint (t.length : Int)).length + t.length) := by
    rw [hB2, List.length_append, List.length_append, List.length_map]
    rfl
  refine ⟨_, rfl, .inl ⟨_, rfl, _, _, rfl, rfl, by show (0 : Int) < _; decide, _, _, rfl, rfl, ?_⟩⟩
  refine ⟨_, rfl, _, rfl, _, _, rfl, .inl ⟨_, SqL.of (z2 _ _ hPB8), rfl⟩, _, _, rfl, rfl, _, rfl, .inl ⟨_, rfl, _, rfl, _, _, rfl, ⟨szle (by omega), rfl⟩, _, _, rfl, rfl, by show (0 : Int) < _; omega, _, _, rfl, rfl, ps, _, _, B.length - 1 - m, rfl, rfl, upd_same, ?_, ?_⟩⟩
  · show ixN _ ((((B.map V.int).length : Nat) : Int) - 1 - pl % ((t.length : Nat) : Int)) = _
    rw [hm, List.length_map]
    unfold ixN
    rw [if_pos (by omega), if_pos (by omega)]
    congr 1
    omega
  obtain ⟨x, hx⟩ : ∃ x, 38 + pl % 218 = x := ⟨_, rfl⟩
  have hx0 : 38 ≤ x := by omega
  have hset : ∀ k, k = B.length - 1 - m → (B.map V.int).set k (V.int (38 + pl % 218)) = (Hd ++ (vint t.length ++ (t.cps.toList.map codeI).set (t.length - 1 - m) x)).map V.int := by
    intro k hk
    rw [hx, ← List.map_set, hB2, List.set_append_right _ _ (by omega), List.set_append_right _ _ (by omega), show k - Hd.length - (vint (t.length : Int)).length = t.length - 1 - m by omega]
  show tSeq _ _ _ _ (upd (upd H8 ps (.lst (B.map V.int))) ps (.lst ((B.map V.int).set (B.length - 1 - m) (V.int (38 + pl % 218)))))
  rw [hset _ rfl]
  have z3 := same_mut (o := .lst ((Hd ++ (vint t.length ++ (t.cps.toList.map codeI).set (t.length - 1 - m) x)).map V.int)) z2 nps
  refine ⟨_, rfl, _, rfl, _, _, rfl, .inl ⟨_, SqL.of (z3 _ _ hA8), rfl⟩, ?_⟩
  rw [List.length_map]
  refine ⟨2, _, _, rfl, .t2 ps (Hd ++ (vint t.length ++ (t.cps.toList.map codeI).set (t.length - 1 - m) x)) _ (SqL.of upd_same) (by rw [List.length_append, List.length_append, List.length_set, List.length_map]; have : t.cps.toList.length = t.length := rfl; omega) ?_ (decT_spoilt Hd t _ x (by omega) (by omega)), fun H9 s9 => h1 _ (sH8.trans (z3.trans s9))⟩
  intro b hb
  rcases List.mem_append.mp hb with z | z
  · exact hHn b z
  · rcases List.mem_append.mp z with z | z
    · exact (vint_byte_NB (small_NB (by omega)) (by omega) b z).1
    · rcases List.mem_or_eq_of_mem_set z with z | z
      · obtain ⟨c, hc, rfl⟩ := List.mem_map.mp z
        exact hal.ok c hc
      · omega

--PART /work/steering/wip/parts/k04c.lean
def spLaw (K : PySem.W.Frag) : Sp := fun vs H Q _ => ∃ (a : Addr) (ns : List Int), vs = [.ref a] ∧ SqL K H a (ns.map V.int) ∧ ns.length ≤ 63 ∧ ∀ H', Q (.bl true) H'
def sp_law (T : Env K mg) : Sp := spLaw K
theorem some_at2 (x y : Int) (b : Bool) : ∃ v, atI ([V.int x, V.int y]) (if b = true then 1 else 0) = some (V.int v) ∧ (v = x ∨ v = y) := by
  cases b with
  | true => exact ⟨y, atI_nat (j := 1) rfl, .inr rfl⟩
  | false => exact ⟨x, atI_nat (j := 0) rfl, .inl rfl⟩
theorem flat_nn : ∀ (ts : List Str), (∀ t ∈ ts, alT t ∧ t.length ≤ 130) → ∀ b ∈ ts.flatMap encT, 0 ≤ b := by
  intro ts h b hb
  obtain ⟨t, ht, hb⟩ := List.mem_flatMap.mp hb
  exact encT_nn (h t ht).1.ok (by have := (h t ht).2; omega) b hb
theorem flat_le : ∀ (ts : List Str), (∀ t ∈ ts, alT t ∧ t.length ≤ 130) → (ts.flatMap encT).length ≤ 230 * ts.length
  | [], _ => by simp
  | t :: r, h => by
    have := flat_le r fun t ht => h t (List.mem_cons_of_mem _ ht)
    have h1 := (h t List.mem_cons_self).2
    have h2 := encT_le (t := t) (by omega)
    rw [List.flatMap_cons, List.length_append, List.length_cons]
    omega
theorem ok_law (T : Env K mg) : FnOk P w K mg base CX0 9 T.a_law T.d_law ["script"] (sp_law T) := by
  refine T.F_law.ok sc_law (fun vs H Q E h => by obtain ⟨_, _, rfl, _⟩ := h; rfl) (fun cdv A outer s H vs Q E hr h => ?_)
  obtain ⟨a, ns, rfl, hS, hlen, h1⟩ := h
  have hu64 := hu64_of hr
  have G__law_block := ok__law_block (P := P) (w := w) (base := base) T
  have G_decode_texts := ok_decode_texts (P := P) (w := w) (base := base) T
  have G__law_cell := ok__law_cell (P := P) (w := w) (base := base) T
  have G__law_varint := ok__law_varint (P := P) (w := w) (base := base) T
  have G__law_refused := ok__law_refused (P := P) (w := w) (base := base) T
  have G__law_text := ok__law_text (P := P) (w := w) (base := base) T
  have G__law_one := ok__law_one (P := P) (w := w) (base := base) T
  have G__law_text_block := ok__law_text_block (P := P) (w := w) (base := base) T
  have G__law_ends := ok__law_ends (P := P) (w := w) (base := base) T
  have G_encode_texts := ok_encode_texts (P := P) (w := w) (base := base) T
  refine ⟨_, (pss_cons (ps_if (pt_cmpR op_ne (pe_glob rfl T.k_ALPHABET T.r_ALPHABET) pe_str (nomark _)) (pss_one (ps_ret pe_bl)) pss_nil)
      (pss_cons (ps_set (i := 1) sc_law.nd rfl (Or.inl rfl) (pe_call G__law_block (hr.mono (by decide)) rfl T.g__law_block T.F__law_block.kp T.b__law_block .nil passL (pa_cons (pe_call G__law_cell (hr.mono (by decide)) rfl T.g__law_cell T.F__law_cell.kp T.b__law_cell .nil passL (pa_cons (pv 0) (pa_cons pe_int pa_nil))) (pa_cons (pe_op op_mod (pe_callTy call_int1 (by rfl) T.z_int (by decide +kernel) (pa_cons (pe_call G__law_cell (hr.mono (by decide)) rfl T.g__law_cell T.F__law_cell.kp T.b__law_cell .nil passL (pa_cons (pv 0) (pa_cons pe_int pa_nil))) pa_nil)) pe_int) pa_nil))))
      (pss_cons (ps_set (i := 2) sc_law.nd rfl (Or.inl rfl) (pe_lst pa_nil))
      (pss_cons (ps_for PassesOwn.never rfl (pi_range1 rfl T.z_range (pa_cons (pe_op op_mod (pe_callTy call_int1 (by rfl) T.z_int (by decide +kernel) (pa_cons (pe_call G__law_cell (hr.mono (by decide)) rfl T.g__law_cell T.F__law_cell.kp T.b__law_cell .nil passL (pa_cons (pv 0) (pa_cons pe_int pa_nil))) pa_nil)) pe_int) pa_nil)) (pg_name (i := 3) sc_law.nd rfl (Or.inl rfl)) (pss_cons (ps_set (i := 4) sc_law.nd rfl (Or.inl rfl) (pe_ix ix_list (pe_lst (pa_cons (pe_op op_mod (pe_callTy call_int1 (by rfl) T.z_int (by decide +kernel) (pa_cons (pe_call G__law_cell (hr.mono (by decide)) rfl T.g__law_cell T.F__law_cell.kp T.b__law_cell .nil passL (pa_cons (pv 0) (pa_cons (pe_op op_add pe_int (pv 3)) pa_nil))) pa_nil)) pe_int) (pa_cons pe_int pa_nil))) (pe_callTy call_int1 (by rfl) T.z_int (by decide +kernel) (pa_cons (pe_cmpR op_eq (pe_op op_mod (pe_call G__law_cell (hr.mono (by decide)) rfl T.g__law_cell T.F__law_cell.kp T.b__law_cell .nil passL (pa_cons (pv 0) (pa_cons (pe_op op_add pe_int (pv 3)) pa_nil))) pe_int) pe_int (nomark _)) pa_nil)) (fun _ _ => rfl)))
      (pss_one (ps_expr (pe_bm PySem.F.plainAttrs_list PySem.F.slot_list_append PySem.F.type_list_append mt_append (pv 2) (pa_cons (pe_call G__law_text (hr.mono (by decide)) rfl T.g__law_text T.F__law_text.kp T.b__law_text .nil passL (pa_cons (pe_call G__law_cell (hr.mono (by decide)) rfl T.g__law_cell T.F__law_cell.kp T.b__law_cell .nil passL (pa_cons (pv 0) (pa_cons (pe_op op_add pe_int (pv 3)) pa_nil))) (pa_cons (pv 4) pa_nil))) pa_nil))))))
      (pss_cons (ps_set (i := 5) sc_law.nd rfl (Or.inl rfl) (pe_op op_cat (pv 1) (pe_call G__law_varint (hr.mono (by decide)) rfl T.g__law_varint T.F__law_varint.kp T.b__law_varint .nil passL (pa_cons (pe_callB call_len (by rfl) T.z_len (by decide +kernel) (pa_cons (pv 2) pa_nil)) pa_nil))))
      (pss_cons (ps_for PassesOwn.never rfl (pi_list (pv 2)) (pg_name (i := 6) sc_law.nd rfl (Or.inl rfl)) (pss_cons (ps_if (pt_not (pt_val (pe_call G__law_one (hr.mono (by decide)) rfl T.g__law_one T.F__law_one.kp T.b__law_one .nil passL (pa_cons (pv 6) (pa_cons (pv 1) (pa_cons (pe_call G__law_cell (hr.mono (by decide)) rfl T.g__law_cell T.F__law_cell.kp T.b__law_cell .nil passL (pa_cons (pv 0) (pa_cons pe_int pa_nil))) pa_nil)))))) (pss_one (ps_ret pe_bl)) pss_nil)
      (pss_one (ps_set (i := 5) sc_law.nd rfl (Or.inl rfl) (pe_op op_cat (pv 5) (pe_call G__law_text_block (hr.mono (by decide)) rfl T.g__law_text_block T.F__law_text_block.kp T.b__law_text_block .nil passL (pa_cons (pv 6) pa_nil)))))))
      (pss_cons (ps_set (i := 7) sc_law.nd rfl (Or.inl rfl) (pe_call G_decode_texts (hr.mono (by decide)) rfl T.g_decode_texts T.F_decode_texts.kp T.b2_decode_texts T.v2_decode_texts passL (pa_cons (pe_op op_cat (pv 5) (pe_lst (pa_cons pe_int pa_nil))) (pa_cons (pe_callB call_len (by rfl) T.z_len (by decide +kernel) (pa_cons (pv 1) pa_nil)) pa_nil))))
      (pss_cons (ps_if (PW.pt (pw_or (pt_not (pt_val (pe_call G__law_ends (hr.mono (by decide)) rfl T.g__law_ends T.F__law_ends.kp T.b__law_ends .nil passL (pa_cons (pv 7) (pa_cons (pe_callB call_len (by rfl) T.z_len (by decide +kernel) (pa_cons (pv 5) pa_nil)) pa_nil))))) (pw_or (pt_not (pt_val (pe_callB call_isi (by rfl) T.z_isinstance (by decide +kernel) (pa_cons (pe_ix ix_tup (pv 7) pe_int (fun _ _ => rfl)) (pa_cons (pe_bltn (v := .ty "tuple") (by rfl) T.z_tuple (by decide +kernel) rfl) pa_nil))))) (pw_or1 (pt_cmpR (op_neD hu64) (pe_callTy call_list_of (by rfl) T.z_list (by decide +kernel) (pa_cons (pe_ix ix_tup (pv 7) pe_int (fun _ _ => rfl)) pa_nil)) (pv 2) (nomark _)))))) (pss_one (ps_ret pe_bl)) pss_nil)
      (pss_cons (ps_if (PW.pt (pw_or (pt_cmpR (op_neD hu64) (pe_call G_encode_texts (hr.mono (by decide)) rfl T.g_encode_texts T.F_encode_texts.kp T.b_encode_texts .nil passL (pa_cons (pe_callTy call_list_of (by rfl) T.z_list (by decide +kernel) (pa_cons (pv 2) pa_nil)) pa_nil)) (pe_slice sl_list (pv 5) (po_some (pe_callB call_len (by rfl) T.z_len (by decide +kernel) (pa_cons (pv 1) pa_nil))) po_none) (nomark _)) (pw_or1 (pt_cmpR (op_neD hu64) (pe_call G_encode_texts (hr.mono (by decide)) rfl T.g_encode_texts T.F_encode_texts.kp T.b_encode_texts .nil passL (pa_cons (pe_callTy call_tuple_of (by rfl) T.z_tuple (by decide +kernel) (pa_cons (pv 2) pa_nil)) pa_nil)) (pe_slice sl_list (pv 5) (po_some (pe_callB call_len (by rfl) T.z_len (by decide +kernel) (pa_cons (pv 1) pa_nil))) po_none) (nomark _))))) (pss_one (ps_ret pe_bl)) pss_nil)
      (pss_cons (ps_set (i := 8) sc_law.nd rfl (Or.inl rfl) (pe_op op_add (pe_callB call_len (by rfl) T.z_len (by decide +kernel) (pa_cons (pv 1) pa_nil)) (pe_op op_mod (pe_callTy call_int1 (by rfl) T.z_int (by decide +kernel) (pa_cons (pe_call G__law_cell (hr.mono (by decide)) rfl T.g__law_cell T.F__law_cell.kp T.b__law_cell .nil passL (pa_cons (pv 0) (pa_cons pe_int pa_nil))) pa_nil)) (pe_op op_sub (pe_callB call_len (by rfl) T.z_len (by decide +kernel) (pa_cons (pv 5) pa_nil)) (pe_callB call_len (by rfl) T.z_len (by decide +kernel) (pa_cons (pv 1) pa_nil))))))
      (pss_one (ps_ret (pe_and (pe_call G__law_refused (hr.mono (by decide)) rfl T.g__law_refused T.F__law_refused.kp T.b__law_refused .nil passL (pa_cons pe_int (pa_cons (pe_slice sl_list (pv 5) po_none (po_some (pv 8))) (pa_cons (pe_callB call_len (by rfl) T.z_len (by decide +kernel) (pa_cons (pv 1) pa_nil)) pa_nil)))) (pe_one (pe_call G__law_refused (hr.mono (by decide)) rfl T.g__law_refused T.F__law_refused.kp T.b__law_refused .nil passL (pa_cons pe_int (pa_cons (pe_op op_cat (pv 2) (pe_lst (pa_cons pe_str pa_nil))) (pa_cons pe_int pa_nil)))))))))))))))))), ?_⟩
  refine ⟨rfl, _, rfl, ifF (by simp) ?_⟩
  have c0 := cell_nn ns 0
  have c1 := cell_nn ns 1
  have c2 := cell_nn ns 2
  refine ⟨_, rfl, a, ns, 0, rfl, hS, by decide, _, rfl, a, ns, 1, rfl, hS, by decide, .inl ⟨_, rfl, _, _, rfl, rfl, by show (0 : Int) < _; decide, _, _, rfl, by omega, by omega, fun ph H1 s1 nph hH => ?_⟩⟩
  have hHl : (blk (cell ns 0) (cell ns 1 % 4).toNat).length ≤ 3 := by rw [blk_len]; omega
  have hHn : ∀ b ∈ blk (cell ns 0) (cell ns 1 % 4).toNat, 0 ≤ b := fun b h => (blk_mem _ _ b h).1
  generalize blk (cell ns 0) (cell ns 1 % 4).toNat = Hd at hH hHl hHn
  refine ⟨Nat.zero_le _, fun pt npt => ?_⟩
  have s2 := s1.trans (same_new (o := .lst []) npt)
  have hH2 := same_new (o := .lst []) npt _ _ hH
  have hptn : H pt = none := s1.free npt
  have hpt0 : upd H1 pt (.lst []) pt = some (.lst (([] : List Str).map V.str)) := upd_same
  have npt1 : ph ≠ pt := ne_of_none hH npt
  show tSeq _ _ _ _ (upd H1 pt (.lst []))
  generalize upd H1 pt (.lst []) = H2 at s2 hH2 hpt0
  refine ⟨_, rfl, a, ns, 2, rfl, s2.seq hS, by decide, .inl ⟨_, rfl, _, _, rfl, rfl, by show (0 : Int) < _; decide, _, rfl, by omega, by omega, ?_⟩⟩
  refine for_range (n := (cell ns 2 % 6).toNat) (fun i σ H' => ∃ v3 v4, ∃ ts : List Str, σ = [some (.ref a), some (.ref ph), some (.ref pt), v3, v4, none, none, none, none] ∧ Same H H' ∧ Li H' ph Hd ∧ H' pt = some (.lst (ts.map V.str)) ∧ ts.length ≤ i ∧ ∀ t ∈ ts, alT t ∧ t.length ≤ 130) ⟨none, none, [], rfl, s2, hH2, hpt0, Nat.le_refl _, fun t h => by simp at h⟩ ?_ ?_
  · rintro i σ H3 hi ⟨v3, v4, ts, rfl, sA, hA, hL, hl, ht⟩
    have ci := cell_nn ns (3 + (0 + (i : Int)))
    have hS3 := sA.seq hS
    refine ⟨_, rfl, _, rfl, _, _, rfl, rfl, a, ns, _, rfl, hS3, by omega, .inl ⟨_, rfl, _, _, rfl, rfl, by show (0 : Int) < _; decide, (by show 2 ≤ sizeLine; decide), fun q nq => ?_⟩⟩
    have sq := same_new (o := .lst [V.int (cell ns (3 + (0 + (i : Int))) % 10), V.int 130]) nq
    obtain ⟨v, hv, hv2⟩ := some_at2 (cell ns (3 + (0 + (i : Int))) % 10) 130 (decide (V.int (cell ns (3 + (0 + (i : Int))) % 31) = V.int 30))
    refine ⟨_, rfl, _, rfl, _, _, rfl, rfl, a, ns, _, rfl, (sA.trans sq).seq hS, by omega, _, _, rfl, rfl, by show (0 : Int) < _; decide, rfl, .inr ⟨_, rfl, q, _, _, .int v, rfl, rfl, SqL.of upd_same, hv, ?_⟩⟩
    have hvb : 0 ≤ v ∧ v ≤ 130 := by omega
    refine ⟨_, rfl, .inl ⟨rfl, _, SqL.of (sq _ _ hL)⟩, ?_⟩
    refine ⟨_, rfl, _, rfl, _, _, rfl, rfl, a, ns, _, rfl, (sA.trans sq).seq hS, by omega, _, rfl, _, _, rfl, hvb.1, by omega, fun H4 s4 => ⟨_, _, _, rfl, rfl, s4 _ _ (sq _ _ hL), szl (by rw [List.length_map]; omega), ?_⟩⟩
    have sB := sA.trans (sq.trans s4)
    refine ⟨_, _, ts ++ [ltxt (cell ns (3 + (0 + (i : Int)))) v.toNat], rfl, same_mut sB hptn, ?_, by rw [upd_same, List.map_append]; rfl, by rw [List.length_append]; show ts.length + 1 ≤ _; omega, ?_⟩
    · show upd _ _ _ _ = _
      rw [upd_ne npt1]
      exact s4 _ _ (sq _ _ hA)
    · intro t hm
      rcases List.mem_append.mp hm with z | z
      · exact ht t z
      · have : t = ltxt (cell ns (3 + (0 + (i : Int)))) v.toNat := by simpa using z
        rw [this]
        exact ⟨ltxt_al _ _, by rw [ltxt_len]; omega⟩
  rintro σ H3 ⟨v3, v4, ts, rfl, sA, hA, hL, hl, ht⟩
  have hl5 : ts.length ≤ 5 := by omega
  clear hl hpt0 hH2 s2 s1 hH
  refine ⟨_, rfl, _, rfl, _, _, rfl, .inl ⟨_, SqL.of hL, rfl⟩, ?_⟩
  rw [List.length_map]
  refine ⟨_, rfl, by omega, small_NB (by omega), fun pv H4 s4 npv hpv => ?_⟩
  have hvl := vint_len100 (small_NB (n := ts.length) (by omega))
  refine ⟨ph, pv, _, _, rfl, rfl, s4 _ _ hA, hpv, (by rw [List.length_map, List.length_map]; exact szle (by omega)), fun pb npb => ?_⟩
  rw [← List.map_append]
  have s5 := s4.trans (same_new (o := .lst ((Hd ++ vint ts.length).map V.int)) npb)
  have hB0 : upd H4 pb (.lst ((Hd ++ vint ts.length).map V.int)) pb = some (.lst ((Hd ++ vint ts.length).map V.int)) := upd_same
  show tSeq _ _ _ _ (upd H4 pb (.lst ((Hd ++ vint ts.length).map V.int)))
  generalize upd H4 pb (.lst ((Hd ++ vint ts.length).map V.int)) = H5 at s5 hB0
  have hL5 := s5 _ _ hL
  have hA5 := s5 _ _ hA
  have sH5 := sA.trans s5
  have hfl := flat_le ts ht
  refine ⟨_, rfl, pt, rfl, ⟨_, SqL.of hL5⟩, ?_⟩
  refine for_list (K := K) (a := pt) (xs := ts.map V.str) (fun i σ H' => ∃ pb v6, σ = [some (.ref a), some (.ref ph), some (.ref pt), v3, v4, some (.ref pb), v6, none, none] ∧ Same H5 H' ∧ Li H' pb (Hd ++ vint ts.length ++ (ts.take i).flatMap encT)) ⟨pb, none, rfl, Same.refl _, by rw [List.take_zero]; show Li H5 pb (_ ++ []); rw [List.append_nil]; exact hB0⟩ (fun i σ H' _ ⟨_, _, _, h, _⟩ => SqL.of (h _ _ hL5)) ?_ ?_
  · rintro i x σ H6 hx ⟨pb, v6, rfl, sB, hB⟩
    obtain ⟨t, hti, rfl⟩ := mem_str hx
    have hi : i < ts.length := (List.getElem?_eq_some_iff.mp hti).1
    obtain ⟨hta, htl⟩ := ht t (List.mem_of_getElem? hti)
    refine ⟨_, rfl, _, rfl, _, rfl, a, ns, 9, rfl, (sH5.trans sB).seq hS, by decide, t, ph, Hd, _, rfl, hta, by omega, sB _ _ hA5, by omega, hHn, cell_nn ns 9, fun H7 s7 => ⟨_, rfl, ifF rfl ?_⟩⟩
    have hin := flat_le (ts.take i) fun t h => ht t (List.mem_of_mem_take h)
    rw [List.length_take] at hin
    have het := encT_le (t := t) (by omega)
    refine ⟨_, rfl, _, rfl, t, rfl, hta.ok, by omega, fun p8 H8 s8 np8 hp8 => ⟨pb, p8, _, _, rfl, rfl, s8 _ _ (s7 _ _ hB), hp8, (by rw [List.length_map, List.length_map, List.length_append, List.length_append]; exact szle (by omega)), fun p9 np9 => ?_⟩⟩
    refine ⟨p9, _, rfl, sB.trans (s7.trans (s8.trans (same_new np9))), ?_⟩
    show upd _ _ _ _ = _
    rw [upd_same, ← List.map_append, take_succ hti, List.flatMap_append]
    simp
  rintro σ H6 ⟨pb, v6, rfl, sB, hB⟩
  rw [List.length_map, List.take_length] at hB
  have hL6 := sB _ _ hL5
  have hA6 := sB _ _ hA5
  have sH6 := sH5.trans sB
  obtain ⟨B, hBe⟩ : ∃ B, Hd ++ encTs ts = B := ⟨_, rfl⟩
  rw [show Hd ++ vint ts.length ++ ts.flatMap encT = B by rw [← hBe, List.append_assoc]; rfl] at hB
  have hTl : (encTs ts).length ≤ 1300 := by
    unfold encTs
    rw [List.length_append]
    omega
  have hTp : 0 < (encTs ts).length := by
    unfold encTs
    rw [List.length_append]
    have := vint_pos (ts.length : Int)
    omega
  have hBl : B.length = Hd.length + (encTs ts).length := by rw [← hBe, List.length_append]
  have hBn : ∀ b ∈ B, 0 ≤ b := fun b h => by
    rw [← hBe] at h
    rcases List.mem_append.mp h with z | z
    · exact hHn b z
    · rcases List.mem_append.mp z with z | z
      · exact (vint_byte_NB (small_NB (n := ts.length) (by omega)) (by omega) b z).1
      · exact flat_nn ts ht b z
  have hal : ∀ t ∈ ts, alT t := fun t h => (ht t h).1
  have hok : ∀ t ∈ ts, okT t := fun t h => (ht t h).1.ok
  have hll : ∀ t ∈ ts, t.length ≤ 400 := fun t h => by have := (ht t h).2; omega
  have hdB : ∀ r, decL (B ++ r) (Hd.length : Nat) = some (ts, ((B.length : Nat) : Int)) := fun r => by
    rw [← hBe, List.append_assoc]
    exact decL_enc Hd r hal
  -- back
  refine ⟨_, rfl, (by show 1 ≤ sizeLine; decide), fun q nq => ?_⟩
  have z1 := same_new (o := .lst ([1].map V.int)) nq
  refine ⟨pb, q, _, _, rfl, rfl, z1 _ _ hB, upd_same, (by rw [List.length_map]; exact szle (by show B.length + 1 ≤ _; omega)), fun q2 nq2 => ?_⟩
  have z2 := z1.trans (same_new (o := .lst (B.map V.int ++ [1].map V.int)) nq2)
  refine ⟨_, rfl, _, _, rfl, .inl ⟨_, SqL.of (z2 _ _ hA6), rfl⟩, ?_⟩
  rw [List.length_map]
  refine ⟨q2, B ++ [1], ((Hd.length : Nat) : Int), rfl, SqL.of (by rw [upd_same, List.map_append]; rfl), (by rw [List.length_append]; exact (by show B.length + 1 ≤ _; omega)), ?_, fun ts' e' hd pk qk H7 s7 npk nqk hne hqk hpk => ?_, fun c => by rw [hdB] at c; cases c⟩
  · intro b h
    rcases List.mem_append.mp h with z | z
    · exact hBn b z
    · have : b = 1 := by simpa using z
      omega
  rw [hdB] at hd
  cases hd
  have s67 := z2.trans s7
  have hA7 := s67 _ _ hA6
  have hB7 := s67 _ _ hB
  have hL7 := s67 _ _ hL6
  have sH7 := sH6.trans s67
  refine ⟨_, rfl, _, rfl, _, _, rfl, .inl ⟨_, SqL.of hB7, rfl⟩, pk, .ref qk, _, rfl, (by rw [List.length_map]; exact hpk), _, rfl, ifF rfl ?_⟩
  refine ⟨_, rfl, pk, _, _, .ref qk, rfl, rfl, SqT.of hpk, atI_nat (j := 0) rfl, _, _, _, _, _, rfl, .ty _, .base (.tup hqk), kit_ty (b := "tuple") (r := true) (by decide +kernel), _, rfl, ifF rfl ?_⟩
  refine ⟨_, rfl, pk, _, _, .ref qk, rfl, rfl, SqT.of hpk, atI_nat (j := 0) rfl, qk, _, rfl, .inr (SqT.of hqk), fun p8 np8 => ?_⟩
  have s8 := same_new (o := .lst (ts.map V.str)) np8
  refine ⟨_, rfl, _, _, dp_strs (SqL.of upd_same), dp_strs (SqL.of (s8 _ _ hL7)), shaped_strs hal, shaped_strs hal, _, rfl, ifF (by rw [eqv_strs hal]; rfl) ?_⟩
  have hA8 := s8 _ _ hA7
  have hB8 := s8 _ _ hB7
  have hL8 := s8 _ _ hL7
  have sH8 := sH7.trans s8
  generalize upd H7 p8 (.lst (ts.map V.str)) = H8 at s8 hA8 hB8 hL8 sH8
  have hcf : cutV (B.map V.int) (some ((Hd.length : Nat) : Int)) none = (encTs ts).map V.int := by
    rw [cut_from, ← List.map_drop, ← hBe, List.drop_left' rfl]
  refine ⟨_, rfl, pt, _, rfl, .inl (SqL.of hL8), fun q3 nq3 => ⟨q3, ts, rfl, .inl (SqL.of upd_same), by omega, hll, fun _ p9 H9 s9 np9 hp9 => ?_, fun c => absurd hok c⟩⟩
  have s89 := (same_new (o := .lst (ts.map V.str)) nq3).trans s9
  have hA9 := s89 _ _ hA8
  have hB9 := s89 _ _ hB8
  have hL9 := s89 _ _ hL8
  have sH9 := sH8.trans s89
  refine ⟨_, rfl, _, rfl, _, _, rfl, .inl ⟨_, SqL.of hA9, rfl⟩, ?_⟩
  rw [List.length_map]
  refine ⟨_, rfl, pb, _, rfl, SqL.of hB9, fun q4 nq4 => ?_⟩
  rw [hcf]
  have s10 := same_new (o := .lst ((encTs ts).map V.int)) nq4
  refine ⟨_, _, dp_ints (SqL.of (s10 _ _ hp9)), dp_ints (SqL.of upd_same), shaped_dInts _, shaped_dInts _, _, rfl, ifF (by rw [eqv_dInts]; simp) ?_⟩
  have hA10 := s10 _ _ hA9
  have hB10 := s10 _ _ hB9
  have hL10 := s10 _ _ hL9
  have sH10 := sH9.trans s10
  generalize upd H9 q4 (.lst ((encTs ts).map V.int)) = H10 at s10 hA10 hB10 hL10 sH10
  refine ⟨_, rfl, pt, _, rfl, .inl ⟨SqL.of hL10, fun q5 nq5 => ⟨q5, ts, rfl, .inr (SqT.of upd_same), by omega, hll, fun _ p11 H11 s11 np11 hp11 => ?_, fun c => absurd hok c⟩⟩⟩
  have s1011 := (same_new (o := .tup (ts.map V.str)) nq5).trans s11
  have hA11 := s1011 _ _ hA10
  have hB11 := s1011 _ _ hB10
  have hL11 := s1011 _ _ hL10
  have sH11 := sH10.trans s1011
  refine ⟨_, rfl, _, rfl, _, _, rfl, .inl ⟨_, SqL.of hA11, rfl⟩, ?_⟩
  rw [List.length_map]
  refine ⟨_, rfl, pb, _, rfl, SqL.of hB11, fun q6 nq6 => ?_⟩
  rw [hcf]
  have s12 := same_new (o := .lst ((encTs ts).map V.int)) nq6
  refine ⟨_, _, dp_ints (SqL.of (s12 _ _ hp11)), dp_ints (SqL.of upd_same), shaped_dInts _, shaped_dInts _, _, rfl, ifF (by rw [eqv_dInts]; simp) ?_⟩
  have hA12 := s12 _ _ hA11
  have hB12 := s12 _ _ hB11
  have hL12 := s12 _ _ hL11
  have sH12 := sH11.trans s12
  generalize upd H11 q6 (.lst ((encTs ts).map V.int)) = H12 at s12 hA12 hB12 hL12 sH12
  -- cut
  refine ⟨_, rfl, _, _, rfl, .inl ⟨_, SqL.of hA12, rfl⟩, _, rfl, a, ns, 10, rfl, sH12.seq hS, by decide, .inl ⟨_, rfl, _, rfl, _, _, rfl, .inl ⟨_, SqL.of hB12, rfl⟩, _, rfl, _, _, rfl, .inl ⟨_, SqL.of hA12, rfl⟩, _, _, rfl, rfl, _, _, rfl, rfl, (by show (0 : Int) < (((B.map V.int).length : Nat) : Int) - (((Hd.map V.int).length : Nat) : Int); rw [List.length_map, List.length_map]; omega), _, _, rfl, rfl, ?_⟩⟩
  show gName 8 (V.int ((((Hd.map V.int).length : Nat) : Int) + cell ns 10 % ((((B.map V.int).length : Nat) : Int) - (((Hd.map V.int).length : Nat) : Int)))) _ _ _
  rw [List.length_map, List.length_map]
  obtain ⟨c, hc, hc1⟩ : ∃ c : Nat, ((Hd.length : Nat) : Int) + cell ns 10 % (((B.length : Nat) : Int) - ((Hd.length : Nat) : Int)) = (c : Int) ∧ c < B.length := by
    have e1 := Int.emod_nonneg (cell ns 10) (b := ((B.length : Nat) : Int) - ((Hd.length : Nat) : Int)) (by omega)
    have e2 := Int.emod_lt_of_pos (cell ns 10) (b := ((B.length : Nat) : Int) - ((Hd.length : Nat) : Int)) (by omega)
    exact ⟨(((Hd.length : Nat) : Int) + cell ns 10 % (((B.length : Nat) : Int) - ((Hd.length : Nat) : Int))).toNat, by omega, by omega⟩
  rw [hc]
  have hdc : decL (B.take c) (Hd.length : Nat) = none := by
    have e : B = B.take c ++ B.drop c := (List.take_append_drop _ _).symm
    refine decL_short (R := B.drop c) (ts := ts) ?_ (by rw [List.length_drop]; omega)
    rw [← e]
    have := hdB []
    rw [List.append_nil] at this
    exact this
  refine ⟨_, rfl, _, rfl, _, rfl, pb, _, rfl, SqL.of hB12, fun q7 nq7 => ?_⟩
  rw [cut_to, ← List.map_take]
  have s13 := same_new (o := .lst ((B.take c).map V.int)) nq7
  refine ⟨_, rfl, _, _, rfl, .inl ⟨_, SqL.of (s13 _ _ hA12), rfl⟩, ?_⟩
  rw [List.length_map]
  refine ⟨3, _, _, rfl, .t3 q7 (B.take c) _ (SqL.of upd_same) (by rw [List.length_take]; omega) (fun b h => hBn b (List.mem_of_mem_take h)) hdc, fun H14 s14 => ⟨_, rfl, iteT ?_⟩⟩
  have hL14 := s14 _ _ (s13 _ _ hL12)
  refine ⟨_, rfl, (by show 1 ≤ sizeLine; decide), fun q8 nq8 => ?_⟩
  have s15 := same_new (o := .lst ([("a_b" : Str)].map V.str)) nq8
  refine ⟨pt, q8, ts.map V.str, _, rfl, rfl, s15 _ _ hL14, upd_same, (by rw [List.length_map]; exact szle (by show ts.length + 1 ≤ _; omega)), fun q9 nq9 => ?_⟩
  refine ⟨1, _, 0, rfl, .t1 q9 (ts ++ [("a_b" : Str)]) _ (SqL.of (by rw [upd_same, List.map_append]; rfl)) (by rw [List.length_append]; show ts.length + 1 ≤ _; omega) ?_ ?_, fun H' _ => h1 _⟩
  · intro x hx
    rcases List.mem_append.mp hx with z | z
    · exact hll x z
    · have : x = ("a_b" : Str) := by simpa using z
      rw [this]
      decide +kernel
  · intro z
    have := z ("a_b" : Str) (by simp)
    revert this
    decide +kernel

end
theorem all_mk {l : PySem.W.OpenLaw} {w : World} {K : PySem.W.Frag} {h : Heap} {mg : Str → Option Value} {fa C_MeridianError C_BadArgument C_BadBytes f_encode_number f_decode_number f__check_index f__last_index f_encode_text f_decode_text f_encode_texts f_decode_texts f__law_cell f__law_is_int f__law_varint f__law_draws f__law_block f__law_code f__law_text f__law_text_block f__law_refused f__law_ends f__law_one f_law : Addr} (X : K.In h) (G : h.Ns mainGlobals mg) (hfa : mg "law" = some (.ref fa))
    {od_encode_number an_encode_number : Option Addr} {sl_encode_number : Array (Option Value)} {oc_encode_number kV_encode_number dc_encode_number pm_encode_number cd_encode_number ct_encode_number : Value}
    {od_decode_number an_decode_number : Option Addr} {sl_decode_number : Array (Option Value)} {oc_decode_number kV_decode_number dc_decode_number pm_decode_number cd_decode_number ct_decode_number : Value}
    {D_decode_number : Addr} {to_decode_number : Value} {td_decode_number : Option Addr} {tn_decode_number : Nat} {tl_decode_number : Array (Option Value)} {tk0_decode_number : Tok}
    {od__check_index an__check_index : Option Addr} {sl__check_index : Array (Option Value)} {oc__check_index kV__check_index dc__check_index pm__check_index cd__check_index ct__check_index : Value}
    {od__last_index an__last_index : Option Addr} {sl__last_index : Array (Option Value)} {oc__last_index kV__last_index dc__last_index pm__last_index cd__last_index ct__last_index : Value}
    {od_encode_text an_encode_text : Option Addr} {sl_encode_text : Array (Option Value)} {oc_encode_text kV_encode_text dc_encode_text pm_encode_text cd_encode_text ct_encode_text : Value}
    {od_decode_text an_decode_text : Option Addr} {sl_decode_text : Array (Option Value)} {oc_decode_text kV_decode_text dc_decode_text pm_decode_text cd_decode_text ct_decode_text : Value}
    {D_decode_text : Addr} {to_decode_text : Value} {td_decode_text : Option Addr} {tn_decode_text : Nat} {tl_decode_text : Array (Option Value)} {tk0_decode_text : Tok}
    {od_encode_texts an_encode_texts : Option Addr} {sl_encode_texts : Array (Option Value)} {oc_encode_texts kV_encode_texts dc_encode_texts pm_encode_texts cd_encode_texts ct_encode_texts : Value}
    {od_decode_texts an_decode_texts : Option Addr} {sl_decode_texts : Array (Option Value)} {oc_decode_texts kV_decode_texts dc_decode_texts pm_decode_texts cd_decode_texts ct_decode_texts : Value}
    {D_decode_texts : Addr} {to_decode_texts : Value} {td_decode_texts : Option Addr} {tn_decode_texts : Nat} {tl_decode_texts : Array (Option Value)} {tk0_decode_texts : Tok}
    {od__law_cell an__law_cell : Option Addr} {sl__law_cell : Array (Option Value)} {oc__law_cell kV__law_cell dc__law_cell pm__law_cell cd__law_cell ct__law_cell : Value}
    {od__law_is_int an__law_is_int : Option Addr} {sl__law_is_int : Array (Option Value)} {oc__law_is_int kV__law_is_int dc__law_is_int pm__law_is_int cd__law_is_int ct__law_is_int : Value}
    {od__law_varint an__law_varint : Option Addr} {sl__law_varint : Array (Option Value)} {oc__law_varint kV__law_varint dc__law_varint pm__law_varint cd__law_varint ct__law_varint : Value}
    {od__law_draws an__law_draws : Option Addr} {sl__law_draws : Array (Option Value)} {oc__law_draws kV__law_draws dc__law_draws pm__law_draws cd__law_draws ct__law_draws : Value}
    {od__law_block an__law_block : Option Addr} {sl__law_block : Array (Option Value)} {oc__law_block kV__law_block dc__law_block pm__law_block cd__law_block ct__law_block : Value}
    {od__law_code an__law_code : Option Addr} {sl__law_code : Array (Option Value)} {oc__law_code kV__law_code dc__law_code pm__law_code cd__law_code ct__law_code : Value}
    {od__law_text an__law_text : Option Addr} {sl__law_text : Array (Option Value)} {oc__law_text kV__law_text dc__law_text pm__law_text cd__law_text ct__law_text : Value}
    {od__law_text_block an__law_text_block : Option Addr} {sl__law_text_block : Array (Option Value)} {oc__law_text_block kV__law_text_block dc__law_text_block pm__law_text_block cd__law_text_block ct__law_text_block : Value}
    {od__law_refused an__law_refused : Option Addr} {sl__law_refused : Array (Option Value)} {oc__law_refused kV__law_refused dc__law_refused pm__law_refused cd__law_refused ct__law_refused : Value}
    {od__law_ends an__law_ends : Option Addr} {sl__law_ends : Array (Option Value)} {oc__law_ends kV__law_ends dc__law_ends pm__law_ends cd__law_ends ct__law_ends : Value}
    {od__law_one an__law_one : Option Addr} {sl__law_one : Array (Option Value)} {oc__law_one kV__law_one dc__law_one pm__law_one cd__law_one ct__law_one : Value}
    {od_law an_law : Option Addr} {sl_law : Array (Option Value)} {oc_law kV_law dc_law pm_law cd_law ct_law : Value}
    {tk_ALPHABET : Tok}
    (mg_MeridianError : PySem.W.nsIn K mainGlobals "MeridianError" = some (some (.ref C_MeridianError)))
    (x_MeridianError : PySem.W.excIn K C_MeridianError [.type "ValueError", .type "Exception", .type "BaseException", .type "object"] "ValueError.__new__" = true)
    (kc_MeridianError : PySem.W.keepIn K (.ref C_MeridianError) = true)
    (bp_MeridianError : PySem.W.subIn K (.ref C_MeridianError) (.type "BaseException") = some true)
    (tp_MeridianError : PySem.W.typeIn K (.ref C_MeridianError) = some (.type "type"))
    (ip_MeridianError : PySem.W.isClsIn K C_MeridianError = true)
    (ga_MeridianError : PySem.W.findIn K (.ref C_MeridianError) "__getattribute__" = some (some (.builtin "BaseException.__getattribute__")))
    (gt_MeridianError : PySem.W.findIn K (.ref C_MeridianError) "__getattr__" = some none)
    (hd_MeridianError : PySem.W.hasDictIn K C_MeridianError = true)
    (ca_MeridianError : PySem.W.findIn K (.ref C_MeridianError) "__class__" = some (some (.builtin "object.__class__")))
    (mo_MeridianError : PySem.W.mroIn K C_MeridianError (.type "object") = some true)
    (ve_MeridianError : PySem.W.subIn K (.ref C_MeridianError) (.type "ValueError") = some true)
    (u_MeridianError_MeridianError : PySem.W.subIn K (.ref C_MeridianError) (.ref C_MeridianError) = some true)
    (u_MeridianError_BadArgument : PySem.W.subIn K (.ref C_MeridianError) (.ref C_BadArgument) = some false)
    (u_MeridianError_BadBytes : PySem.W.subIn K (.ref C_MeridianError) (.ref C_BadBytes) = some false)
    (mg_BadArgument : PySem.W.nsIn K mainGlobals "BadArgument" = some (some (.ref C_BadArgument)))
    (x_BadArgument : PySem.W.excIn K C_BadArgument [.type "ValueError", .type "Exception", .type "BaseException", .type "object"] "ValueError.__new__" = true)
    (kc_BadArgument : PySem.W.keepIn K (.ref C_BadArgument) = true)
    (bp_BadArgument : PySem.W.subIn K (.ref C_BadArgument) (.type "BaseException") = some true)
    (tp_BadArgument : PySem.W.typeIn K (.ref C_BadArgument) = some (.type "type"))
    (ip_BadArgument : PySem.W.isClsIn K C_BadArgument = true)
    (ga_BadArgument : PySem.W.findIn K (.ref C_BadArgument) "__getattribute__" = some (some (.builtin "BaseException.__getattribute__")))
    (gt_BadArgument : PySem.W.findIn K (.ref C_BadArgument) "__getattr__" = some none)
    (hd_BadArgument : PySem.W.hasDictIn K C_BadArgument = true)
    (ca_BadArgument : PySem.W.findIn K (.ref C_BadArgument) "__class__" = some (some (.builtin "object.__class__")))
    (mo_BadArgument : PySem.W.mroIn K C_BadArgument (.type "object") = some true)
    (ve_BadArgument : PySem.W.subIn K (.ref C_BadArgument) (.type "ValueError") = some true)
    (u_BadArgument_MeridianError : PySem.W.subIn K (.ref C_BadArgument) (.ref C_MeridianError) = some true)
    (u_BadArgument_BadArgument : PySem.W.subIn K (.ref C_BadArgument) (.ref C_BadArgument) = some true)
    (u_BadArgument_BadBytes : PySem.W.subIn K (.ref C_BadArgument) (.ref C_BadBytes) = some false)
    (mg_BadBytes : PySem.W.nsIn K mainGlobals "BadBytes" = some (some (.ref C_BadBytes)))
    (x_BadBytes : PySem.W.excIn K C_BadBytes [.type "ValueError", .type "Exception", .type "BaseException", .type "object"] "ValueError.__new__" = true)
    (kc_BadBytes : PySem.W.keepIn K (.ref C_BadBytes) = true)
    (bp_BadBytes : PySem.W.subIn K (.ref C_BadBytes) (.type "BaseException") = some true)
    (tp_BadBytes : PySem.W.typeIn K (.ref C_BadBytes) = some (.type "type"))
    (ip_BadBytes : PySem.W.isClsIn K C_BadBytes = true)
    (ga_BadBytes : PySem.W.findIn K (.ref C_BadBytes) "__getattribute__" = some (some (.builtin "BaseException.__getattribute__")))
    (gt_BadBytes : PySem.W.findIn K (.ref C_BadBytes) "__getattr__" = some none)
    (hd_BadBytes : PySem.W.hasDictIn K C_BadBytes = true)
    (ca_BadBytes : PySem.W.findIn K (.ref C_BadBytes) "__class__" = some (some (.builtin "object.__class__")))
    (mo_BadBytes : PySem.W.mroIn K C_BadBytes (.type "object") = some true)
    (ve_BadBytes : PySem.W.subIn K (.ref C_BadBytes) (.type "ValueError") = some true)
    (u_BadBytes_MeridianError : PySem.W.subIn K (.ref C_BadBytes) (.ref C_MeridianError) = some true)
    (u_BadBytes_BadArgument : PySem.W.subIn K (.ref C_BadBytes) (.ref C_BadArgument) = some false)
    (u_BadBytes_BadBytes : PySem.W.subIn K (.ref C_BadBytes) (.ref C_BadBytes) = some true)
    (cn : PySem.W.specialIn K (.builtin "object.__class__") "__get__" = some (some (.builtin "getset_descriptor.__get__")))
    (ct : PySem.W.takesIn K (.builtin "object.__class__") = some true)
    (a_encode_number : PySem.W.nsIn K mainGlobals "encode_number" = some (some (.ref f_encode_number)))
    (l_encode_number : K.lookup f_encode_number = some ⟨oc_encode_number, od_encode_number, .func (PySem.W.fnOf "encode_number" "encode_number" (defArgs s_encode_number) (defBody s_encode_number) (defScope s_encode_number) .none kV_encode_number dc_encode_number pm_encode_number an_encode_number cd_encode_number ct_encode_number), sl_encode_number⟩)
    (c_encode_number : PySem.W.codeIn K cd_encode_number "encode_number" = true)
    (k_encode_number : PySem.W.keepIn K (.ref f_encode_number) = true)
    (a_decode_number : PySem.W.nsIn K mainGlobals "decode_number" = some (some (.ref f_decode_number)))
    (l_decode_number : K.lookup f_decode_number = some ⟨oc_decode_number, od_decode_number, .func (PySem.W.fnOf "decode_number" "decode_number" (defArgs s_decode_number) (defBody s_decode_number) (defScope s_decode_number) (.ref D_decode_number) kV_decode_number dc_decode_number pm_decode_number an_decode_number cd_decode_number ct_decode_number), sl_decode_number⟩)
    (t_decode_number : K.lookup D_decode_number = some ⟨to_decode_number, td_decode_number, .seq ([.int 0 tk0_decode_number] : List Value).toArray tn_decode_number, tl_decode_number⟩)
    (c_decode_number : PySem.W.codeIn K cd_decode_number "decode_number" = true)
    (k_decode_number : PySem.W.keepIn K (.ref f_decode_number) = true)
    (a__check_index : PySem.W.nsIn K mainGlobals "_check_index" = some (some (.ref f__check_index)))
    (l__check_index : K.lookup f__check_index = some ⟨oc__check_index, od__check_index, .func (PySem.W.fnOf "_check_index" "_check_index" (defArgs s__check_index) (defBody s__check_index) (defScope s__check_index) .none kV__check_index dc__check_index pm__check_index an__check_index cd__check_index ct__check_index), sl__check_index⟩)
    (c__check_index : PySem.W.codeIn K cd__check_index "_check_index" = true)
    (k__check_index : PySem.W.keepIn K (.ref f__check_index) = true)
    (a__last_index : PySem.W.nsIn K mainGlobals "_last_index" = some (some (.ref f__last_index)))
    (l__last_index : K.lookup f__last_index = some ⟨oc__last_index, od__last_index, .func (PySem.W.fnOf "_last_index" "_last_index" (defArgs s__last_index) (defBody s__last_index) (defScope s__last_index) .none kV__last_index dc__last_index pm__last_index an__last_index cd__last_index ct__last_index), sl__last_index⟩)
    (c__last_index : PySem.W.codeIn K cd__last_index "_last_index" = true)
    (k__last_index : PySem.W.keepIn K (.ref f__last_index) = true)
    (a_encode_text : PySem.W.nsIn K mainGlobals "encode_text" = some (some (.ref f_encode_text)))
    (l_encode_text : K.lookup f_encode_text = some ⟨oc_encode_text, od_encode_text, .func (PySem.W.fnOf "encode_text" "encode_text" (defArgs s_encode_text) (defBody s_encode_text) (defScope s_encode_text) .none kV_encode_text dc_encode_text pm_encode_text an_encode_text cd_encode_text ct_encode_text), sl_encode_text⟩)
    (c_encode_text : PySem.W.codeIn K cd_encode_text "encode_text" = true)
    (k_encode_text : PySem.W.keepIn K (.ref f_encode_text) = true)
    (a_decode_text : PySem.W.nsIn K mainGlobals "decode_text" = some (some (.ref f_decode_text)))
    (l_decode_text : K.lookup f_decode_text = some ⟨oc_decode_text, od_decode_text, .func (PySem.W.fnOf "decode_text" "decode_text" (defArgs s_decode_text) (defBody s_decode_text) (defScope s_decode_text) (.ref D_decode_text) kV_decode_text dc_decode_text pm_decode_text an_decode_text cd_decode_text ct_decode_text), sl_decode_text⟩)
    (t_decode_text : K.lookup D_decode_text = some ⟨to_decode_text, td_decode_text, .seq ([.int 0 tk0_decode_text] : List Value).toArray tn_decode_text, tl_decode_text⟩)
    (c_decode_text : PySem.W.codeIn K cd_decode_text "decode_text" = true)
    (k_decode_text : PySem.W.keepIn K (.ref f_decode_text) = true)
    (a_encode_texts : PySem.W.nsIn K mainGlobals "encode_texts" = some (some (.ref f_encode_texts)))
    (l_encode_texts : K.lookup f_encode_texts = some ⟨oc_encode_texts, od_encode_texts, .func (PySem.W.fnOf "encode_texts" "encode_texts" (defArgs s_encode_texts) (defBody s_encode_texts) (defScope s_encode_texts) .none kV_encode_texts dc_encode_texts pm_encode_texts an_encode_texts cd_encode_texts ct_encode_texts), sl_encode_texts⟩)
    (c_encode_texts : PySem.W.codeIn K cd_encode_texts "encode_texts" = true)
    (k_encode_texts : PySem.W.keepIn K (.ref f_encode_texts) = true)
    (a_decode_texts : PySem.W.nsIn K mainGlobals "decode_texts" = some (some (.ref f_decode_texts)))
    (l_decode_texts : K.lookup f_decode_texts = some ⟨oc_decode_texts, od_decode_texts, .func (PySem.W.fnOf "decode_texts" "decode_texts" (defArgs s_decode_texts) (defBody s_decode_texts) (defScope s_decode_texts) (.ref D_decode_texts) kV_decode_texts dc_decode_texts pm_decode_texts an_decode_texts cd_decode_texts ct_decode_texts), sl_decode_texts⟩)
    (t_decode_texts : K.lookup D_decode_texts = some ⟨to_decode_texts, td_decode_texts, .seq ([.int 0 tk0_decode_texts] : List Value).toArray tn_decode_texts, tl_decode_texts⟩)
    (c_decode_texts : PySem.W.codeIn K cd_decode_texts "decode_texts" = true)
    (k_decode_texts : PySem.W.keepIn K (.ref f_decode_texts) = true)
    (a__law_cell : PySem.W.nsIn K mainGlobals "_law_cell" = some (some (.ref f__law_cell)))
    (l__law_cell : K.lookup f__law_cell = some ⟨oc__law_cell, od__law_cell, .func (PySem.W.fnOf "_law_cell" "_law_cell" (defArgs s__law_cell) (defBody s__law_cell) (defScope s__law_cell) .none kV__law_cell dc__law_cell pm__law_cell an__law_cell cd__law_cell ct__law_cell), sl__law_cell⟩)
    (c__law_cell : PySem.W.codeIn K cd__law_cell "_law_cell" = true)
    (k__law_cell : PySem.W.keepIn K (.ref f__law_cell) = true)
    (a__law_is_int : PySem.W.nsIn K mainGlobals "_law_is_int" = some (some (.ref f__law_is_int)))
    (l__law_is_int : K.lookup f__law_is_int = some ⟨oc__law_is_int, od__law_is_int, .func (PySem.W.fnOf "_law_is_int" "_law_is_int" (defArgs s__law_is_int) (defBody s__law_is_int) (defScope s__law_is_int) .none kV__law_is_int dc__law_is_int pm__law_is_int an__law_is_int cd__law_is_int ct__law_is_int), sl__law_is_int⟩)
    (c__law_is_int : PySem.W.codeIn K cd__law_is_int "_law_is_int" = true)
    (k__law_is_int : PySem.W.keepIn K (.ref f__law_is_int) = true)
    (a__law_varint : PySem.W.nsIn K mainGlobals "_law_varint" = some (some (.ref f__law_varint)))
    (l__law_varint : K.lookup f__law_varint = some ⟨oc__law_varint, od__law_varint, .func (PySem.W.fnOf "_law_varint" "_law_varint" (defArgs s__law_varint) (defBody s__law_varint) (defScope s__law_varint) .none kV__law_varint dc__law_varint pm__law_varint an__law_varint cd__law_varint ct__law_varint), sl__law_varint⟩)
    (c__law_varint : PySem.W.codeIn K cd__law_varint "_law_varint" = true)
    (k__law_varint : PySem.W.keepIn K (.ref f__law_varint) = true)
    (a__law_draws : PySem.W.nsIn K mainGlobals "_law_draws" = some (some (.ref f__law_draws)))
    (l__law_draws : K.lookup f__law_draws = some ⟨oc__law_draws, od__law_draws, .func (PySem.W.fnOf "_law_draws" "_law_draws" (defArgs s__law_draws) (defBody s__law_draws) (defScope s__law_draws) .none kV__law_draws dc__law_draws pm__law_draws an__law_draws cd__law_draws ct__law_draws), sl__law_draws⟩)
    (c__law_draws : PySem.W.codeIn K cd__law_draws "_law_draws" = true)
    (k__law_draws : PySem.W.keepIn K (.ref f__law_draws) = true)
    (a__law_block : PySem.W.nsIn K mainGlobals "_law_block" = some (some (.ref f__law_block)))
    (l__law_block : K.lookup f__law_block = some ⟨oc__law_block, od__law_block, .func (PySem.W.fnOf "_law_block" "_law_block" (defArgs s__law_block) (defBody s__law_block) (defScope s__law_block) .none kV__law_block dc__law_block pm__law_block an__law_block cd__law_block ct__law_block), sl__law_block⟩)
    (c__law_block : PySem.W.codeIn K cd__law_block "_law_block" = true)
    (k__law_block : PySem.W.keepIn K (.ref f__law_block) = true)
    (a__law_code : PySem.W.nsIn K mainGlobals "_law_code" = some (some (.ref f__law_code)))
    (l__law_code : K.lookup f__law_code = some ⟨oc__law_code, od__law_code, .func (PySem.W.fnOf "_law_code" "_law_code" (defArgs s__law_code) (defBody s__law_code) (defScope s__law_code) .none kV__law_code dc__law_code pm__law_code an__law_code cd__law_code ct__law_code), sl__law_code⟩)
    (c__law_code : PySem.W.codeIn K cd__law_code "_law_code" = true)
    (k__law_code : PySem.W.keepIn K (.ref f__law_code) = true)
    (a__law_text : PySem.W.nsIn K mainGlobals "_law_text" = some (some (.ref f__law_text)))
    (l__law_text : K.lookup f__law_text = some ⟨oc__law_text, od__law_text, .func (PySem.W.fnOf "_law_text" "_law_text" (defArgs s__law_text) (defBody s__law_text) (defScope s__law_text) .none kV__law_text dc__law_text pm__law_text an__law_text cd__law_text ct__law_text), sl__law_text⟩)
    (c__law_text : PySem.W.codeIn K cd__law_text "_law_text" = true)
    (k__law_text : PySem.W.keepIn K (.ref f__law_text) = true)
    (a__law_text_block : PySem.W.nsIn K mainGlobals "_law_text_block" = some (some (.ref f__law_text_block)))
    (l__law_text_block : K.lookup f__law_text_block = some ⟨oc__law_text_block, od__law_text_block, .func (PySem.W.fnOf "_law_text_block" "_law_text_block" (defArgs s__law_text_block) (defBody s__law_text_block) (defScope s__law_text_block) .none kV__law_text_block dc__law_text_block pm__law_text_block an__law_text_block cd__law_text_block ct__law_text_block), sl__law_text_block⟩)
    (c__law_text_block : PySem.W.codeIn K cd__law_text_block "_law_text_block" = true)
    (k__law_text_block : PySem.W.keepIn K (.ref f__law_text_block) = true)
    (a__law_refused : PySem.W.nsIn K mainGlobals "_law_refused" = some (some (.ref f__law_refused)))
    (l__law_refused : K.lookup f__law_refused = some ⟨oc__law_refused, od__law_refused, .func (PySem.W.fnOf "_law_refused" "_law_refused" (defArgs s__law_refused) (defBody s__law_refused) (defScope s__law_refused) .none kV__law_refused dc__law_refused pm__law_refused an__law_refused cd__law_refused ct__law_refused), sl__law_refused⟩)
    (c__law_refused : PySem.W.codeIn K cd__law_refused "_law_refused" = true)
    (k__law_refused : PySem.W.keepIn K (.ref f__law_refused) = true)
    (a__law_ends : PySem.W.nsIn K mainGlobals "_law_ends" = some (some (.ref f__law_ends)))
    (l__law_ends : K.lookup f__law_ends = some ⟨oc__law_ends, od__law_ends, .func (PySem.W.fnOf "_law_ends" "_law_ends" (defArgs s__law_ends) (defBody s__law_ends) (defScope s__law_ends) .none kV__law_ends dc__law_ends pm__law_ends an__law_ends cd__law_ends ct__law_ends), sl__law_ends⟩)
    (c__law_ends : PySem.W.codeIn K cd__law_ends "_law_ends" = true)
    (k__law_ends : PySem.W.keepIn K (.ref f__law_ends) = true)
    (a__law_one : PySem.W.nsIn K mainGlobals "_law_one" = some (some (.ref f__law_one)))
    (l__law_one : K.lookup f__law_one = some ⟨oc__law_one, od__law_one, .func (PySem.W.fnOf "_law_one" "_law_one" (defArgs s__law_one) (defBody s__law_one) (defScope s__law_one) .none kV__law_one dc__law_one pm__law_one an__law_one cd__law_one ct__law_one), sl__law_one⟩)
    (c__law_one : PySem.W.codeIn K cd__law_one "_law_one" = true)
    (k__law_one : PySem.W.keepIn K (.ref f__law_one) = true)
    (a_law : PySem.W.nsIn K mainGlobals "law" = some (some (.ref f_law)))
    (l_law : K.lookup f_law = some ⟨oc_law, od_law, .func (PySem.W.fnOf "law" "law" (defArgs s_law) (defBody s_law) (defScope s_law) .none kV_law dc_law pm_law an_law cd_law ct_law), sl_law⟩)
    (c_law : PySem.W.codeIn K cd_law "law" = true)
    (k_law : PySem.W.keepIn K (.ref f_law) = true)
    (x0_ALPHABET : PySem.W.nsIn K mainGlobals "ALPHABET" = some (some (.str "abcdefghijklmnopqrstuvwxyz0123456789./" tk_ALPHABET)))
    (z_len : PySem.W.nsIn K mainGlobals "len" = some none)
    (z_tuple : PySem.W.nsIn K mainGlobals "tuple" = some none)
    (z_abs : PySem.W.nsIn K mainGlobals "abs" = some none)
    (z_int : PySem.W.nsIn K mainGlobals "int" = some none)
    (z_isinstance : PySem.W.nsIn K mainGlobals "isinstance" = some none)
    (z_bool : PySem.W.nsIn K mainGlobals "bool" = some none)
    (z_range : PySem.W.nsIn K mainGlobals "range" = some none)
    (z_list : PySem.W.nsIn K mainGlobals "list" = some none) :
    ∃ fd : FuncData, (∀ (s : Shared) (v : Value), BindsTo s fd ⟨[v], []⟩ [("script", v)]) ∧ ∀ base : Heap, K.In base → base.Ns mainGlobals mg → FnOk l.prog w K mg base CX0 9 fa fd ["script"] (spLaw K) := by
  have e : f_law = fa := (Value.ref.inj (Option.some.inj (hfa.symm.trans (PySem.W.mg_of X G a_law)))).symm
  subst e
  have G_decode_number : FunD K "decode_number" "decode_number" (defArgs s_decode_number) (defBody s_decode_number) (defScope s_decode_number) [.int 0] [] f_decode_number _ := ⟨⟨_, _, _, _, _, _, _, _, _, _, rfl, l_decode_number, c_decode_number, .inr ⟨by simp, D_decode_number, _, _, _, rfl, t_decode_number, rfl, (.cons ⟨_, rfl⟩ .nil)⟩, .inl rfl⟩, k_decode_number⟩
  have B1_decode_number := G_decode_number.binds1 (ps := ["block", "at"]) 1 0 (by simp) rfl fun _ _ _ _ _ _ _ us its hu hi => match us, its, hu, hi with | [_], [_], _, _ => ⟨_, rfl, rfl⟩
  have B2_decode_number := G_decode_number.binds1 (ps := ["block", "at"]) 2 1 (by simp) rfl fun _ _ _ _ _ _ _ us its hu hi => match us, its, hu, hi with | [_, _], [_], _, _ => ⟨_, rfl, rfl⟩
  have G_decode_text : FunD K "decode_text" "decode_text" (defArgs s_decode_text) (defBody s_decode_text) (defScope s_decode_text) [.int 0] [] f_decode_text _ := ⟨⟨_, _, _, _, _, _, _, _, _, _, rfl, l_decode_text, c_decode_text, .inr ⟨by simp, D_decode_text, _, _, _, rfl, t_decode_text, rfl, (.cons ⟨_, rfl⟩ .nil)⟩, .inl rfl⟩, k_decode_text⟩
  have B1_decode_text := G_decode_text.binds1 (ps := ["block", "at"]) 1 0 (by simp) rfl fun _ _ _ _ _ _ _ us its hu hi => match us, its, hu, hi with | [_], [_], _, _ => ⟨_, rfl, rfl⟩
  have B2_decode_text := G_decode_text.binds1 (ps := ["block", "at"]) 2 1 (by simp) rfl fun _ _ _ _ _ _ _ us its hu hi => match us, its, hu, hi with | [_, _], [_], _, _ => ⟨_, rfl, rfl⟩
  have G_decode_texts : FunD K "decode_texts" "decode_texts" (defArgs s_decode_texts) (defBody s_decode_texts) (defScope s_decode_texts) [.int 0] [] f_decode_texts _ := ⟨⟨_, _, _, _, _, _, _, _, _, _, rfl, l_decode_texts, c_decode_texts, .inr ⟨by simp, D_decode_texts, _, _, _, rfl, t_decode_texts, rfl, (.cons ⟨_, rfl⟩ .nil)⟩, .inl rfl⟩, k_decode_texts⟩
  have B1_decode_texts := G_decode_texts.binds1 (ps := ["block", "at"]) 1 0 (by simp) rfl fun _ _ _ _ _ _ _ us its hu hi => match us, its, hu, hi with | [_], [_], _, _ => ⟨_, rfl, rfl⟩
  have B2_decode_texts := G_decode_texts.binds1 (ps := ["block", "at"]) 2 1 (by simp) rfl fun _ _ _ _ _ _ _ us its hu hi => match us, its, hu, hi with | [_, _], [_], _, _ => ⟨_, rfl, rfl⟩
  let T : Env K mg := {
    c_MeridianError := C_MeridianError,
    c_BadArgument := C_BadArgument,
    c_BadBytes := C_BadBytes,
    a_encode_number := f_encode_number,
    d_encode_number := _,
    F_encode_number := fun_mk (st := s_encode_number) l_encode_number c_encode_number k_encode_number,
    b_encode_number := (fun_mk (st := s_encode_number) l_encode_number c_encode_number k_encode_number).binds (ps := ["number"]) fun _ _ _ _ _ _ us hl => match us, hl with | [_], _ => rfl,
    g_encode_number := PySem.W.mg_of X G a_encode_number,
    a_decode_number := f_decode_number,
    d_decode_number := _,
    F_decode_number := G_decode_number,
    w1_decode_number := B1_decode_number.choose,
    v1_decode_number := B1_decode_number.choose_spec.1,
    b1_decode_number := B1_decode_number.choose_spec.2,
    w2_decode_number := B2_decode_number.choose,
    v2_decode_number := B2_decode_number.choose_spec.1,
    b2_decode_number := B2_decode_number.choose_spec.2,
    g_decode_number := PySem.W.mg_of X G a_decode_number,
    a__check_index := f__check_index,
    d__check_index := _,
    F__check_index := fun_mk (st := s__check_index) l__check_index c__check_index k__check_index,
    b__check_index := (fun_mk (st := s__check_index) l__check_index c__check_index k__check_index).binds (ps := ["block", "at"]) fun _ _ _ _ _ _ us hl => match us, hl with | [_, _], _ => rfl,
    g__check_index := PySem.W.mg_of X G a__check_index,
    a__last_index := f__last_index,
    d__last_index := _,
    F__last_index := fun_mk (st := s__last_index) l__last_index c__last_index k__last_index,
    b__last_index := (fun_mk (st := s__last_index) l__last_index c__last_index k__last_index).binds (ps := ["block", "at"]) fun _ _ _ _ _ _ us hl => match us, hl with | [_, _], _ => rfl,
    g__last_index := PySem.W.mg_of X G a__last_index,
    a_encode_text := f_encode_text,
    d_encode_text := _,
    F_encode_text := fun_mk (st := s_encode_text) l_encode_text c_encode_text k_encode_text,
    b_encode_text := (fun_mk (st := s_encode_text) l_encode_text c_encode_text k_encode_text).binds (ps := ["text"]) fun _ _ _ _ _ _ us hl => match us, hl with | [_], _ => rfl,
    g_encode_text := PySem.W.mg_of X G a_encode_text,
    a_decode_text := f_decode_text,
    d_decode_text := _,
    F_decode_text := G_decode_text,
    w1_decode_text := B1_decode_text.choose,
    v1_decode_text := B1_decode_text.choose_spec.1,
    b1_decode_text := B1_decode_text.choose_spec.2,
    w2_decode_text := B2_decode_text.choose,
    v2_decode_text := B2_decode_text.choose_spec.1,
    b2_decode_text := B2_decode_text.choose_spec.2,
    g_decode_text := PySem.W.mg_of X G a_decode_text,
    a_encode_texts := f_encode_texts,
    d_encode_texts := _,
    F_encode_texts := fun_mk (st := s_encode_texts) l_encode_texts c_encode_texts k_encode_texts,
    b_encode_texts := (fun_mk (st := s_encode_texts) l_encode_texts c_encode_texts k_encode_texts).binds (ps := ["texts"]) fun _ _ _ _ _ _ us hl => match us, hl with | [_], _ => rfl,
    g_encode_texts := PySem.W.mg_of X G a_encode_texts,
    a_decode_texts := f_decode_texts,
    d_decode_texts := _,
    F_decode_texts := G_decode_texts,
    w1_decode_texts := B1_decode_texts.choose,
    v1_decode_texts := B1_decode_texts.choose_spec.1,
    b1_decode_texts := B1_decode_texts.choose_spec.2,
    w2_decode_texts := B2_decode_texts.choose,
    v2_decode_texts := B2_decode_texts.choose_spec.1,
    b2_decode_texts := B2_decode_texts.choose_spec.2,
    g_decode_texts := PySem.W.mg_of X G a_decode_texts,
    a__law_cell := f__law_cell,
    d__law_cell := _,
    F__law_cell := fun_mk (st := s__law_cell) l__law_cell c__law_cell k__law_cell,
    b__law_cell := (fun_mk (st := s__law_cell) l__law_cell c__law_cell k__law_cell).binds (ps := ["script", "k"]) fun _ _ _ _ _ _ us hl => match us, hl with | [_, _], _ => rfl,
    g__law_cell := PySem.W.mg_of X G a__law_cell,
    a__law_is_int := f__law_is_int,
    d__law_is_int := _,
    F__law_is_int := fun_mk (st := s__law_is_int) l__law_is_int c__law_is_int k__law_is_int,
    b__law_is_int := (fun_mk (st := s__law_is_int) l__law_is_int c__law_is_int k__law_is_int).binds (ps := ["thing"]) fun _ _ _ _ _ _ us hl => match us, hl with | [_], _ => rfl,
    g__law_is_int := PySem.W.mg_of X G a__law_is_int,
    a__law_varint := f__law_varint,
    d__law_varint := _,
    F__law_varint := fun_mk (st := s__law_varint) l__law_varint c__law_varint k__law_varint,
    b__law_varint := (fun_mk (st := s__law_varint) l__law_varint c__law_varint k__law_varint).binds (ps := ["number"]) fun _ _ _ _ _ _ us hl => match us, hl with | [_], _ => rfl,
    g__law_varint := PySem.W.mg_of X G a__law_varint,
    a__law_draws := f__law_draws,
    d__law_draws := _,
    F__law_draws := fun_mk (st := s__law_draws) l__law_draws c__law_draws k__law_draws,
    b__law_draws := (fun_mk (st := s__law_draws) l__law_draws c__law_draws k__law_draws).binds (ps := ["cell", "many", "limit"]) fun _ _ _ _ _ _ us hl => match us, hl with | [_, _, _], _ => rfl,
    g__law_draws := PySem.W.mg_of X G a__law_draws,
    a__law_block := f__law_block,
    d__law_block := _,
    F__law_block := fun_mk (st := s__law_block) l__law_block c__law_block k__law_block,
    b__law_block := (fun_mk (st := s__law_block) l__law_block c__law_block k__law_block).binds (ps := ["cell", "many"]) fun _ _ _ _ _ _ us hl => match us, hl with | [_, _], _ => rfl,
    g__law_block := PySem.W.mg_of X G a__law_block,
    a__law_code := f__law_code,
    d__law_code := _,
    F__law_code := fun_mk (st := s__law_code) l__law_code c__law_code k__law_code,
    b__law_code := (fun_mk (st := s__law_code) l__law_code c__law_code k__law_code).binds (ps := ["char"]) fun _ _ _ _ _ _ us hl => match us, hl with | [_], _ => rfl,
    g__law_code := PySem.W.mg_of X G a__law_code,
    a__law_text := f__law_text,
    d__law_text := _,
    F__law_text := fun_mk (st := s__law_text) l__law_text c__law_text k__law_text,
    b__law_text := (fun_mk (st := s__law_text) l__law_text c__law_text k__law_text).binds (ps := ["cell", "many"]) fun _ _ _ _ _ _ us hl => match us, hl with | [_, _], _ => rfl,
    g__law_text := PySem.W.mg_of X G a__law_text,
    a__law_text_block := f__law_text_block,
    d__law_text_block := _,
    F__law_text_block := fun_mk (st := s__law_text_block) l__law_text_block c__law_text_block k__law_text_block,
    b__law_text_block := (fun_mk (st := s__law_text_block) l__law_text_block c__law_text_block k__law_text_block).binds (ps := ["text"]) fun _ _ _ _ _ _ us hl => match us, hl with | [_], _ => rfl,
    g__law_text_block := PySem.W.mg_of X G a__law_text_block,
    a__law_refused := f__law_refused,
    d__law_refused := _,
    F__law_refused := fun_mk (st := s__law_refused) l__law_refused c__law_refused k__law_refused,
    b__law_refused := (fun_mk (st := s__law_refused) l__law_refused c__law_refused k__law_refused).binds (ps := ["which", "thing", "at"]) fun _ _ _ _ _ _ us hl => match us, hl with | [_, _, _], _ => rfl,
    g__law_refused := PySem.W.mg_of X G a__law_refused,
    a__law_ends := f__law_ends,
    d__law_ends := _,
    F__law_ends := fun_mk (st := s__law_ends) l__law_ends c__law_ends k__law_ends,
    b__law_ends := (fun_mk (st := s__law_ends) l__law_ends c__law_ends k__law_ends).binds (ps := ["actual", "end"]) fun _ _ _ _ _ _ us hl => match us, hl with | [_, _], _ => rfl,
    g__law_ends := PySem.W.mg_of X G a__law_ends,
    a__law_one := f__law_one,
    d__law_one := _,
    F__law_one := fun_mk (st := s__law_one) l__law_one c__law_one k__law_one,
    b__law_one := (fun_mk (st := s__law_one) l__law_one c__law_one k__law_one).binds (ps := ["text", "head", "place"]) fun _ _ _ _ _ _ us hl => match us, hl with | [_, _, _], _ => rfl,
    g__law_one := PySem.W.mg_of X G a__law_one,
    a_law := f_law,
    d_law := _,
    F_law := fun_mk (st := s_law) l_law c_law k_law,
    b_law := (fun_mk (st := s_law) l_law c_law k_law).binds (ps := ["script"]) fun _ _ _ _ _ _ us hl => match us, hl with | [_], _ => rfl,
    e_MeridianError := ⟨PySem.W.mg_of X G mg_MeridianError, x_MeridianError, kc_MeridianError, bp_MeridianError, tp_MeridianError, ip_MeridianError, ⟨ga_MeridianError, gt_MeridianError, bp_MeridianError, hd_MeridianError, ca_MeridianError, cn, ct, mo_MeridianError⟩, kit_ty_sub ve_MeridianError (by decide +kernel)⟩,
    u_MeridianError_MeridianError := PySem.W.exm_ref bp_MeridianError hd_MeridianError tp_MeridianError u_MeridianError_MeridianError,
    q_MeridianError_MeridianError := kit_own u_MeridianError_MeridianError u_MeridianError_MeridianError ip_MeridianError tp_MeridianError,
    u_MeridianError_BadArgument := PySem.W.exm_ref bp_BadArgument hd_BadArgument tp_BadArgument u_MeridianError_BadArgument,
    q_MeridianError_BadArgument := kit_own u_MeridianError_BadArgument u_MeridianError_MeridianError ip_BadArgument tp_BadArgument,
    u_MeridianError_BadBytes := PySem.W.exm_ref bp_BadBytes hd_BadBytes tp_BadBytes u_MeridianError_BadBytes,
    q_MeridianError_BadBytes := kit_own u_MeridianError_BadBytes u_MeridianError_MeridianError ip_BadBytes tp_BadBytes,
    e_BadArgument := ⟨PySem.W.mg_of X G mg_BadArgument, x_BadArgument, kc_BadArgument, bp_BadArgument, tp_BadArgument, ip_BadArgument, ⟨ga_BadArgument, gt_BadArgument, bp_BadArgument, hd_BadArgument, ca_BadArgument, cn, ct, mo_BadArgument⟩, kit_ty_sub ve_BadArgument (by decide +kernel)⟩,
    u_BadArgument_MeridianError := PySem.W.exm_ref bp_MeridianError hd_MeridianError tp_MeridianError u_BadArgument_MeridianError,
    q_BadArgument_MeridianError := kit_own u_BadArgument_MeridianError u_BadArgument_BadArgument ip_MeridianError tp_MeridianError,
    u_BadArgument_BadArgument := PySem.W.exm_ref bp_BadArgument hd_BadArgument tp_BadArgument u_BadArgument_BadArgument,
    q_BadArgument_BadArgument := kit_own u_BadArgument_BadArgument u_BadArgument_BadArgument ip_BadArgument tp_BadArgument,
    u_BadArgument_BadBytes := PySem.W.exm_ref bp_BadBytes hd_BadBytes tp_BadBytes u_BadArgument_BadBytes,
    q_BadArgument_BadBytes := kit_own u_BadArgument_BadBytes u_BadArgument_BadArgument ip_BadBytes tp_BadBytes,
    e_BadBytes := ⟨PySem.W.mg_of X G mg_BadBytes, x_BadBytes, kc_BadBytes, bp_BadBytes, tp_BadBytes, ip_BadBytes, ⟨ga_BadBytes, gt_BadBytes, bp_BadBytes, hd_BadBytes, ca_BadBytes, cn, ct, mo_BadBytes⟩, kit_ty_sub ve_BadBytes (by decide +kernel)⟩,
    u_BadBytes_MeridianError := PySem.W.exm_ref bp_MeridianError hd_MeridianError tp_MeridianError u_BadBytes_MeridianError,
    q_BadBytes_MeridianError := kit_own u_BadBytes_MeridianError u_BadBytes_BadBytes ip_MeridianError tp_MeridianError,
    u_BadBytes_BadArgument := PySem.W.exm_ref bp_BadArgument hd_BadArgument tp_BadArgument u_BadBytes_BadArgument,
    q_BadBytes_BadArgument := kit_own u_BadBytes_BadArgument u_BadBytes_BadBytes ip_BadArgument tp_BadArgument,
    u_BadBytes_BadBytes := PySem.W.exm_ref bp_BadBytes hd_BadBytes tp_BadBytes u_BadBytes_BadBytes,
    q_BadBytes_BadBytes := kit_own u_BadBytes_BadBytes u_BadBytes_BadBytes ip_BadBytes tp_BadBytes,
    o_ALPHABET := _,
    k_ALPHABET := PySem.W.mg_of X G x0_ALPHABET,
    r_ALPHABET := ⟨_, rfl⟩,
    z_len := PySem.W.mg_none_of X G z_len,
    z_tuple := PySem.W.mg_none_of X G z_tuple,
    z_abs := PySem.W.mg_none_of X G z_abs,
    z_int := PySem.W.mg_none_of X G z_int,
    z_isinstance := PySem.W.mg_none_of X G z_isinstance,
    z_bool := PySem.W.mg_none_of X G z_bool,
    z_range := PySem.W.mg_none_of X G z_range,
    z_list := PySem.W.mg_none_of X G z_list }
  exact ⟨PySem.W.fnOf "law" "law" (defArgs s_law) (defBody s_law) (defScope s_law) .none kV_law dc_law pm_law an_law cd_law ct_law, fun s v => .of_eq rfl, fun base _ _ => ok_law T⟩
theorem walk {l : PySem.W.OpenLaw} {q : Program} {loose : List Str} {XP : (Str → Option Value) → Heap → Prop} {YP : World → Heap → Prop} {d : DefRec} {K : Params → PySem.W.Frag} (hn : l.most = some 63) (hdf : d.params.defaults = [])
    (hY : ∀ (w : World) (h : Heap), YP w h → (K w.params).In h)
    (F : ∀ (w : World) (mg : Str → Option Value) (fa : Addr) (h : Heap), (K w.params).In h → h.Ns mainGlobals mg → mg d.name = some (.ref fa) →
      ∃ fd : FuncData, (∀ (s : Shared) (u : Value), BindsTo s fd ⟨[u], []⟩ [("script", u)]) ∧ ∀ base : Heap, (K w.params).In base → base.Ns mainGlobals mg → FnOk l.prog w (K w.params) mg base CX0 9 fa fd ["script"] (spLaw (K w.params))) :
    PySem.W.WalkO q loose XP YP l.row.toRowW d [] (fun f vs => PySem.call f vs) :=
  L2.walk_of (n := 63) (k := 9) (x := "script") (CX := fun _ => CX0) (sp := fun w => spLaw (K w.params)) hn (by decide) hdf ⟨rfl, by decide, by decide⟩ hY F (fun _ _ a ns hl _ hS => ⟨a, ns, rfl, hS, hl, fun _ => rfl⟩) fun _ _ _ _ _ z => z
end Dv
open PySem PySem.W PyProof.Rows in
set_option maxRecDepth 100000 in
set_option maxHeartbeats 0 in
theorem PySem.Challenge.cw_meridian_k04_texts_encoded_holds : PySem.Challenge.rw_meridian_k04_texts_encoded.Holds := by
  w_on; o_law; k_head; (case hw => w_witness2)
  k_fill
  refine Dv.walk (l := PySem.Challenge.rw_meridian_k04_texts_encoded) rfl rfl (fun w h Y => PySem.W.kIn_of Y) ?F
  case F =>
    intro w mg fa h KX G hmg
    refine' Dv.all_mk KX G hmg ?mg_MeridianError ?x_MeridianError ?kc_MeridianError ?bp_MeridianError ?tp_MeridianError ?ip_MeridianError ?ga_MeridianError ?gt_MeridianError ?hd_MeridianError ?ca_MeridianError ?mo_MeridianError ?ve_MeridianError ?u_MeridianError_MeridianError ?u_MeridianError_BadArgument ?u_MeridianError_BadBytes ?mg_BadArgument ?x_BadArgument ?kc_BadArgument ?bp_BadArgument ?tp_BadArgument ?ip_BadArgument ?ga_BadArgument ?gt_BadArgument ?hd_BadArgument ?ca_BadArgument ?mo_BadArgument ?ve_BadArgument ?u_BadArgument_MeridianError ?u_BadArgument_BadArgument ?u_BadArgument_BadBytes ?mg_BadBytes ?x_BadBytes ?kc_BadBytes ?bp_BadBytes ?tp_BadBytes ?ip_BadBytes ?ga_BadBytes ?gt_BadBytes ?hd_BadBytes ?ca_BadBytes ?mo_BadBytes ?ve_BadBytes ?u_BadBytes_MeridianError ?u_BadBytes_BadArgument ?u_BadBytes_BadBytes ?cn ?ct ?a_encode_number ?l_encode_number ?c_encode_number ?k_encode_number ?a_decode_number ?l_decode_number ?t_decode_number ?c_decode_number ?k_decode_number ?a__check_index ?l__check_index ?c__check_index ?k__check_index ?a__last_index ?l__last_index ?c__last_index ?k__last_index ?a_encode_text ?l_encode_text ?c_encode_text ?k_encode_text ?a_decode_text ?l_decode_text ?t_decode_text ?c_decode_text ?k_decode_text ?a_encode_texts ?l_encode_texts ?c_encode_texts ?k_encode_texts ?a_decode_texts ?l_decode_texts ?t_decode_texts ?c_decode_texts ?k_decode_texts ?a__law_cell ?l__law_cell ?c__law_cell ?k__law_cell ?a__law_is_int ?l__law_is_int ?c__law_is_int ?k__law_is_int ?a__law_varint ?l__law_varint ?c__law_varint ?k__law_varint ?a__law_draws ?l__law_draws ?c__law_draws ?k__law_draws ?a__law_block ?l__law_block ?c__law_block ?k__law_block ?a__law_code ?l__law_code ?c__law_code ?k__law_code ?a__law_text ?l__law_text ?c__law_text ?k__law_text ?a__law_text_block ?l__law_text_block ?c__law_text_block ?k__law_text_block ?a__law_refused ?l__law_refused ?c__law_refused ?k__law_refused ?a__law_ends ?l__law_ends ?c__law_ends ?k__law_ends ?a__law_one ?l__law_one ?c__law_one ?k__law_one ?a_law ?l_law ?c_law ?k_law ?x0_ALPHABET ?z_len ?z_tuple ?z_abs ?z_int ?z_isinstance ?z_bool ?z_range ?z_list
    (case mg_MeridianError => k_is)
    (case mg_BadArgument => k_is)
    (case mg_BadBytes => k_is)
    (case a_encode_number => k_is)
    (case a_decode_number => k_is)
    (case a__check_index => k_is)
    (case a__last_index => k_is)
    (case a_encode_text => k_is)
    (case a_decode_text => k_is)
    (case a_encode_texts => k_is)
    (case a_decode_texts => k_is)
    (case a__law_cell => k_is)
    (case a__law_is_int => k_is)
    (case a__law_varint => k_is)
    (case a__law_draws => k_is)
    (case a__law_block => k_is)
    (case a__law_code => k_is)
    (case a__law_text => k_is)
    (case a__law_text_block => k_is)
    (case a__law_refused => k_is)
    (case a__law_ends => k_is)
    (case a__law_one => k_is)
    (case a_law => k_is)
    (case x_MeridianError => k_exc)
    (case kc_MeridianError => k_is)
    (case bp_MeridianError => k_is)
    (case tp_MeridianError => k_is)
    (case ip_MeridianError => k_is)
    (case ga_MeridianError => k_is)
    (case gt_MeridianError => k_is)
    (case hd_MeridianError => k_is)
    (case ca_MeridianError => k_is)
    (case mo_MeridianError => k_is)
    (case ve_MeridianError => k_is)
    (case u_MeridianError_MeridianError => k_is)
    (case u_MeridianError_BadArgument => k_is)
    (case u_MeridianError_BadBytes => k_is)
    (case x_BadArgument => k_exc)
    (case kc_BadArgument => k_is)
    (case bp_BadArgument => k_is)
    (case tp_BadArgument => k_is)
    (case ip_BadArgument => k_is)
    (case ga_BadArgument => k_is)
    (case gt_BadArgument => k_is)
    (case hd_BadArgument => k_is)
    (case ca_BadArgument => k_is)
    (case mo_BadArgument => k_is)
    (case ve_BadArgument => k_is)
    (case u_BadArgument_MeridianError => k_is)
    (case u_BadArgument_BadArgument => k_is)
    (case u_BadArgument_BadBytes => k_is)
    (case x_BadBytes => k_exc)
    (case kc_BadBytes => k_is)
    (case bp_BadBytes => k_is)
    (case tp_BadBytes => k_is)
    (case ip_BadBytes => k_is)
    (case ga_BadBytes => k_is)
    (case gt_BadBytes => k_is)
    (case hd_BadBytes => k_is)
    (case ca_BadBytes => k_is)
    (case mo_BadBytes => k_is)
    (case ve_BadBytes => k_is)
    (case u_BadBytes_MeridianError => k_is)
    (case u_BadBytes_BadArgument => k_is)
    (case u_BadBytes_BadBytes => k_is)
    (case cn => k_is)
    (case ct => k_is)
    (case l_encode_number => k_is)
    (case c_encode_number => k_is)
    (case k_encode_number => k_is)
    (case l_decode_number => k_is)
    (case t_decode_number => k_is)
    (case c_decode_number => k_is)
    (case k_decode_number => k_is)
    (case l__check_index => k_is)
    (case c__check_index => k_is)
    (case k__check_index => k_is)
    (case l__last_index => k_is)
    (case c__last_index => k_is)
    (case k__last_index => k_is)
    (case l_encode_text => k_is)
    (case c_encode_text => k_is)
    (case k_encode_text => k_is)
    (case l_decode_text => k_is)
    (case t_decode_text => k_is)
    (case c_decode_text => k_is)
    (case k_decode_text => k_is)
    (case l_encode_texts => k_is)
    (case c_encode_texts => k_is)
    (case k_encode_texts => k_is)
    (case l_decode_texts => k_is)
    (case t_decode_texts => k_is)
    (case c_decode_texts => k_is)
    (case k_decode_texts => k_is)
    (case l__law_cell => k_is)
    (case c__law_cell => k_is)
    (case k__law_cell => k_is)
    (case l__law_is_int => k_is)
    (case c__law_is_int => k_is)
    (case k__law_is_int => k_is)
    (case l__law_varint => k_is)
    (case c__law_varint => k_is)
    (case k__law_varint => k_is)
    (case l__law_draws => k_is)
    (case c__law_draws => k_is)
    (case k__law_draws => k_is)
    (case l__law_block => k_is)
    (case c__law_block => k_is)
    (case k__law_block => k_is)
    (case l__law_code => k_is)
    (case c__law_code => k_is)
    (case k__law_code => k_is)
    (case l__law_text => k_is)
    (case c__law_text => k_is)
    (case k__law_text => k_is)
    (case l__law_text_block => k_is)
    (case c__law_text_block => k_is)
    (case k__law_text_block => k_is)
    (case l__law_refused => k_is)
    (case c__law_refused => k_is)
    (case k__law_refused => k_is)
    (case l__law_ends => k_is)
    (case c__law_ends => k_is)
    (case k__law_ends => k_is)
    (case l__law_one => k_is)
    (case c__law_one => k_is)
    (case k__law_one => k_is)
    (case l_law => k_is)
    (case c_law => k_is)
    (case k_law => k_is)
    (case x0_ALPHABET => k_is)
    (case z_len => k_is)
    (case z_tuple => k_is)
    (case z_abs => k_is)
    (case z_int => k_is)
    (case z_isinstance => k_is)
    (case z_bool => k_is)
    (case z_range => k_is)
    (case z_list => k_is)
