import PyProof.Rows.All
import Wide.All
import OpenK.AllK
import Wide.FinOn
import HandS.ForExc
import HandS.ForMost
import HandS.IsInst
import HandS.ExcIs
import HandS.Wide
import HandS.CallSlots
import HandS.Property
import HandS.Defaults
import HandS.MakeKwOnly
import HandS.TupAny
import HandS.LawCells
import PySem.Challenge.RW_meridian_k03_values_encoded
set_option Elab.async false
set_option linter.all false
set_option maxRecDepth 100000
set_option maxHeartbeats 4000000
namespace Dv
open PySem PySem.Spec PyProof.Rows L2
def top (i : Nat) : Stmt := PySem.Challenge.pw_meridian_k03_values_encoded.main.body.getD i (.Pass ⟨0, 0, 0, 0⟩)
abbrev s_encode_number : Stmt := (top 5)
theorem sc_encode_number : FnScope ["number", "block"] ["number"] (defScope s_encode_number) := ⟨rfl, rfl, rfl, by decide +kernel, rfl, by decide +kernel, by decide +kernel⟩
abbrev s_decode_number : Stmt := (top 6)
theorem sc_decode_number : FnScope ["block", "at", "last", "number", "unit", "byte"] ["block", "at"] (defScope s_decode_number) := ⟨rfl, rfl, rfl, by decide +kernel, rfl, by decide +kernel, by decide +kernel⟩
abbrev s_encode_signed : Stmt := (top 7)
theorem sc_encode_signed : FnScope ["number"] ["number"] (defScope s_encode_signed) := ⟨rfl, rfl, rfl, by decide +kernel, rfl, by decide +kernel, by decide +kernel⟩
abbrev s_decode_signed : Stmt := (top 8)
theorem sc_decode_signed : FnScope ["block", "at", "code", "behind"] ["block", "at"] (defScope s_decode_signed) := ⟨rfl, rfl, rfl, by decide +kernel, rfl, by decide +kernel, by decide +kernel⟩
abbrev s_encode_flag : Stmt := (top 9)
theorem sc_encode_flag : FnScope ["flag"] ["flag"] (defScope s_encode_flag) := ⟨rfl, rfl, rfl, by decide +kernel, rfl, by decide +kernel, by decide +kernel⟩
abbrev s_decode_flag : Stmt := (top 10)
theorem sc_decode_flag : FnScope ["block", "at"] ["block", "at"] (defScope s_decode_flag) := ⟨rfl, rfl, rfl, by decide +kernel, rfl, by decide +kernel, by decide +kernel⟩
abbrev s_encode_value : Stmt := (top 11)
theorem sc_encode_value : FnScope ["value"] ["value"] (defScope s_encode_value) := ⟨rfl, rfl, rfl, by decide +kernel, rfl, by decide +kernel, by decide +kernel⟩
abbrev s_decode_value : Stmt := (top 12)
theorem sc_decode_value : FnScope ["block", "at", "is_number", "behind"] ["block", "at"] (defScope s_decode_value) := ⟨rfl, rfl, rfl, by decide +kernel, rfl, by decide +kernel, by decide +kernel⟩
abbrev s__check_index : Stmt := (top 13)
theorem sc__check_index : FnScope ["block", "at"] ["block", "at"] (defScope s__check_index) := ⟨rfl, rfl, rfl, by decide +kernel, rfl, by decide +kernel, by decide +kernel⟩
abbrev s__last_index : Stmt := (top 14)
theorem sc__last_index : FnScope ["block", "at"] ["block", "at"] (defScope s__last_index) := ⟨rfl, rfl, rfl, by decide +kernel, rfl, by decide +kernel, by decide +kernel⟩
abbrev s__law_cell : Stmt := (top 16)
theorem sc__law_cell : FnScope ["script", "k"] ["script", "k"] (defScope s__law_cell) := ⟨rfl, rfl, rfl, by decide +kernel, rfl, by decide +kernel, by decide +kernel⟩
abbrev s__law_is_int : Stmt := (top 17)
theorem sc__law_is_int : FnScope ["thing"] ["thing"] (defScope s__law_is_int) := ⟨rfl, rfl, rfl, by decide +kernel, rfl, by decide +kernel, by decide +kernel⟩
abbrev s__law_varint : Stmt := (top 18)
theorem sc__law_varint : FnScope ["number", "out"] ["number"] (defScope s__law_varint) := ⟨rfl, rfl, rfl, by decide +kernel, rfl, by decide +kernel, by decide +kernel⟩
abbrev s__law_signed : Stmt := (top 19)
theorem sc__law_signed : FnScope ["number"] ["number"] (defScope s__law_signed) := ⟨rfl, rfl, rfl, by decide +kernel, rfl, by decide +kernel, by decide +kernel⟩
abbrev s__law_draws : Stmt := (top 20)
theorem sc__law_draws : FnScope ["cell", "many", "limit", "out", "k", "mixed"] ["cell", "many", "limit"] (defScope s__law_draws) := ⟨rfl, rfl, rfl, by decide +kernel, rfl, by decide +kernel, by decide +kernel⟩
abbrev s__law_block : Stmt := (top 21)
theorem sc__law_block : FnScope ["cell", "many", "number"] ["cell", "many"] (defScope s__law_block) := ⟨rfl, rfl, rfl, by decide +kernel, rfl, by decide +kernel, by decide +kernel⟩
abbrev s__law_number : Stmt := (top 22)
theorem sc__law_number : FnScope ["cell"] ["cell"] (defScope s__law_number) := ⟨rfl, rfl, rfl, by decide +kernel, rfl, by decide +kernel, by decide +kernel⟩
abbrev s__law_refused : Stmt := (top 23)
theorem sc__law_refused : FnScope ["which", "block", "at"] ["which", "block", "at"] (defScope s__law_refused) := ⟨rfl, rfl, rfl, by decide +kernel, rfl, by decide +kernel, by decide +kernel⟩
abbrev s__law_back : Stmt := (top 24)
theorem sc__law_back : FnScope ["actual", "thing", "end"] ["actual", "thing", "end"] (defScope s__law_back) := ⟨rfl, rfl, rfl, by decide +kernel, rfl, by decide +kernel, by decide +kernel⟩
abbrev s_law : Stmt := (top 25)
theorem sc_law : FnScope ["script", "head", "tail", "at", "number", "thing", "due", "block", "wrong", "flag", "which"] ["script"] (defScope s_law) := ⟨rfl, rfl, rfl, by decide +kernel, rfl, by decide +kernel, by decide +kernel⟩
theorem kit_own {K : PySem.W.Frag} {C E : Addr} {b : Bool} (h : PySem.W.subIn K (.ref C) (.ref E) = some b) (hs : PySem.W.subIn K (.ref C) (.ref C) = some true) (hc : PySem.W.isClsIn K E = true) (ht : PySem.W.typeIn K (.ref E) = some (.type "type")) :
    PySem.W.kitOne K (.ref C) (.ref E) = some b := by
  unfold PySem.W.kitOne
  by_cases e : (Value.ref C == Value.ref E) = true
  · rw [if_pos e]
    have e' : Value.ref C = Value.ref E := by simpa using e
    rw [← e', hs] at h
    exact h
  · rw [if_neg e]
    show (if ((PySem.W.clsIn K E).isSome && PySem.W.typeIn K (.ref E) == some (.type "type")) = true then PySem.W.subIn K (.ref C) (.ref E) else none) = some b
    have hc' : (PySem.W.clsIn K E).isSome = true := hc
    rw [hc', ht, if_pos (by rfl)]
    exact h
theorem kit_ty_sub {K : PySem.W.Frag} {C : Addr} {T : String} {b : Bool} (h : PySem.W.subIn K (.ref C) (.type T) = some b) (hm : PySem.W.kitMeta T = true) : PySem.W.kitOne K (.ref C) (.type T) = some b := by
  unfold PySem.W.kitOne
  rw [if_neg (by simp)]
  show (if PySem.W.kitMeta T = true then PySem.W.subIn K (.ref C) (.type T) else none) = some b
  rw [if_pos hm]
  exact h
/-- isinstance(e, c), isinstance(e, (c1, ..)): e the exception that the suite holds, of whatever class -/
def rIsG (K : PySem.W.Frag) (cls : Value) (d : Option Addr) (a : Addr) : List V → Hp → VK → Prop := fun xs H Q => ∃ (D : Addr) (b : Bool), cls = .ref D ∧ d = none ∧ ExcC K D ∧
  ((∃ (c : V) (cv : Value), xs = [.ref a, c] ∧ ClsV c cv ∧ PySem.W.kitOne K (.ref D) cv = some b ∧ Q (.bl b) H) ∨
   ∃ (tp : Addr) (cs : List V) (us : List Value), xs = [.ref a, .ref tp] ∧ H tp = some (.tup cs) ∧ Paired ClsV cs us ∧ PySem.W.kitAny K (.ref D) us = some b ∧ Q (.bl b) H)
theorem call_isG {X : Cx} {a : Addr} {cls : Value} {d : Option Addr} {oe : Obj} {pn : List (Addr × Obj)} (hz : Zc cls d oe) (hf : ∃ vs, oe.data = .fields vs) : CallR (X.suite a ((a, oe) :: pn)) (.builtin "isinstance") (rIsG X.K cls d a) := by
  intro pins s σ H xs us Q I r h
  obtain ⟨D, b, rfl, rfl, C, h⟩ := h
  rcases h with ⟨c, cv, rfl, hcv, e, q⟩ | ⟨tp, cs, ws, rfl, hT, k, e, q⟩
  · exact call_isE C hz hf pins s σ H _ us Q I r ⟨c, cv, b, rfl, fun u ru => hcv.eq ru, e, q⟩
  · obtain ⟨u1, u2, rfl, r1, r2⟩ := vals2 r
    cases (show u2 = Value.ref tp from r2)
    cases (show u1 = Value.ref a from r1)
    obtain ⟨hget, _⟩ := I.pin (a, oe) (List.mem_append.mpr (.inl List.mem_cons_self))
    obtain ⟨vs, hv⟩ := hf
    have J : PySem.W.InstAt s.heap a oe D none := by
      obtain ⟨oc, od, oda, osl⟩ := oe
      obtain ⟨h1, h2⟩ := hz
      dsimp only at h1 h2 hv
      subst h1 h2 hv
      exact ⟨hget, rfl, rfl, trivial⟩
    obtain ⟨_, its, rv, o, h1, h2, n, h3⟩ := (show ObjOk X.prog X.w H s.heap tp (.tup cs) from I.hok tp _ hT)
    have e3 := ClsV.all k rv
    subst e3
    obtain ⟨oc, od, dt, sl⟩ := o
    simp only at h2 h3
    subst h2 h3
    exact PySem.W.kia_tup (PySem.W.handS_kitx_exc C.hg C.hk C.hs C.hd C.ha C.hn C.ht C.hm) I.kIn J h1 e (fun z => nomatch z) fun tk => ⟨.bl b, H, I.kept (t' := tk) fun _ _ z => z, rfl, q⟩
/-- the room that == of data wants -/
theorem hu64_of {A : Around} {k : Nat} (hr : Room k A) : A.units + 64 < cLine := Nat.lt_of_le_of_lt (Nat.le_refl _) hr.units
theorem same_new {H : Hp} {p : Addr} {o : HO} (h : H p = none) : Same H (upd H p o) := fun b x e => by
  rw [upd_ne (ne_of_none e h)]
  exact e
/-- an object unknown before may change -/
theorem same_mut {H H1 : Hp} {p : Addr} {o : HO} (s : Same H H1) (h : H p = none) : Same H (upd H1 p o) := fun b x e => by
  rw [upd_ne (ne_of_none e h)]
  exact s b x e
theorem sql_new {K : PySem.W.Frag} {H : Hp} {p : Addr} {xs : List V} : SqL K (upd H p (.lst xs)) p xs := SqL.of upd_same
theorem same_dp {K : PySem.W.Frag} {H H' : Hp} (s : Same H H') : ∀ (d : PyData) (v : V), Dp K H v d → Dp K H' v d := by
  intro d v h
  exact Dp.rec (motive_1 := fun v d _ => Dp K H' v d) (motive_2 := fun vs ds _ => DpAll K H' vs ds) .non (fun b => .bl b) (fun i => .int i) (fun x => .str x)
    (fun h1 _ ih => .lst (s.seq h1) ih) (fun h1 _ ih => .tup (by rcases h1 with h1 | h1
                                                                 · rcases h1 with h1 | ⟨o, h1⟩
                                                                   · exact .inl (.inl (s _ _ h1))
                                                                   · exact .inl (.inr ⟨o, s _ _ h1⟩)
                                                                 · exact .inr h1) ih) .nil (fun _ _ h1 h2 => .cons h1 h2) h
/-! lists of ints as data -/
def dInts (ns : List Int) : PyData := .list (ns.map PyData.int)
theorem dp_all_ints {K : PySem.W.Frag} {H : Hp} : ∀ ns : List Int, DpAll K H (ns.map V.int) (ns.map PyData.int)
  | [] => .nil
  | n :: r => .cons (.int n) (dp_all_ints r)
theorem dp_ints {K : PySem.W.Frag} {H : Hp} {a : Addr} {ns : List Int} (h : SqL K H a (ns.map V.int)) : Dp K H (.ref a) (dInts ns) := .lst h (dp_all_ints ns)
theorem eqv_ints : ∀ ns ms : List Int, PyData.eqvAll (ns.map PyData.int) (ms.map PyData.int) = decide (ns = ms)
  | [], [] => rfl
  | [], _ :: _ => rfl
  | _ :: _, [] => rfl
  | n :: r, m :: t => by
    show (PyData.eqv (.int n) (.int m) && PyData.eqvAll (r.map PyData.int) (t.map PyData.int)) = _
    rw [eqv_ints r t]
    show ((n == m) && decide (r = t)) = _
    by_cases h : n = m <;> by_cases h2 : r = t <;> simp [h, h2]
theorem eqv_dInts (ns ms : List Int) : PyData.eqv (dInts ns) (dInts ms) = decide (ns = ms) := eqv_ints ns ms
theorem canLay_ints : ∀ ns : List Int, (PyData.list (ns.map PyData.int)).canLay0 = true → True := fun _ _ => trivial
theorem ifT {c : Bool} {A B : Prop} (hc : c = true) (h : A) : if c = true then A else B := by
  rw [if_pos hc]
  exact h
theorem ifF {c : Bool} {A B : Prop} (hc : c = false) (h : B) : if c = true then A else B := by
  rw [hc, if_neg Bool.false_ne_true]
  exact h
/-- both ways of an if over a decided comparison -/
theorem iteD {p : Prop} [Decidable p] {A B : Prop} (h1 : p → A) (h2 : ¬ p → B) : if decide p = true then A else B := by
  by_cases h : p
  · rw [if_pos (decide_eq_true h)]
    exact h1 h
  · rw [if_neg (by simpa using h)]
    exact h2 h
theorem iteN {p : Prop} [Decidable p] {A B : Prop} (h1 : ¬ p → A) (h2 : p → B) : if (!decide p) = true then A else B := by
  by_cases h : p
  · rw [if_neg (by simpa using h)]
    exact h2 h
  · rw [if_pos (by simpa using h)]
    exact h1 h
theorem yes_if {σ : L2.St} {H : Hp} {A B : Hp → Prop} (h : A H) : tYes σ H (fun b H3 => if b = true then A H3 else B H3) := by
  show (if true = true then A H else B H)
  rw [if_pos rfl]
  exact h
abbrev Li (H : Hp) (p : Addr) (ns : List Int) : Prop := H p = some (.lst (ns.map V.int))
theorem szl {n : Nat} (h : n ≤ 1000000) : n < sizeLine := Nat.lt_of_le_of_lt h (by decide)
theorem szle {n : Nat} (h : n ≤ 1000000) : n ≤ sizeLine := Nat.le_of_lt (szl h)
theorem mem_int {ns : List Int} {i : Nat} {x : V} (hx : (ns.map V.int)[i]? = some x) : ∃ n, ns[i]? = some n ∧ x = V.int n := by
  rw [List.getElem?_map] at hx
  cases e : ns[i]? with
  | none => rw [e] at hx; cases hx
  | some u => rw [e] at hx; exact ⟨u, rfl, (Option.some.inj hx).symm⟩
theorem li_push {H : Hp} {p : Addr} {ns : List Int} {n : Int} : Li (upd H p (.lst (ns.map V.int ++ [V.int n]))) p (ns ++ [n]) := by
  show upd _ _ _ _ = _
  rw [upd_same, List.map_append]
  rfl
theorem take_succ {α : Type} {l : List α} {i : Nat} {x : α} (h : l[i]? = some x) : l.take (i + 1) = l.take i ++ [x] := by
  rw [List.take_add_one, h]
  rfl
/-! slices of lists -/
theorem cutV_map {α : Type} (f : α → V) (xs : List α) (lo hi : Option Int) : cutV (xs.map f) lo hi = ((xs.drop (HT.sIx xs.length 0 lo)).take (HT.sIx xs.length xs.length hi - HT.sIx xs.length 0 lo)).map f := by
  unfold cutV
  rw [List.length_map, List.map_take, List.map_drop]
theorem cut_to (xs : List V) (k : Nat) : cutV xs none (some (k : Int)) = xs.take k := by
  unfold cutV
  rw [HT.sIx_none, HT.sIx_nat, List.drop_zero, Nat.sub_zero]
  by_cases h : k ≤ xs.length
  · rw [Nat.min_eq_left h]
  · rw [Nat.min_eq_right (by omega), List.take_of_length_le (Nat.le_refl _), List.take_of_length_le (by omega)]
theorem cut_from (xs : List V) (k : Nat) : cutV xs (some (k : Int)) none = xs.drop k := by
  unfold cutV
  rw [HT.sIx_none, HT.sIx_nat]
  by_cases h : k ≤ xs.length
  · rw [Nat.min_eq_left h]
    exact List.take_of_length_le (by rw [List.length_drop]; exact Nat.le_refl _)
  · rw [Nat.min_eq_right (by omega), List.drop_of_length_le (by omega), List.take_nil, List.drop_of_length_le (by omega)]
theorem cut_fromto (xs : List V) (i j : Nat) : cutV xs (some (i : Int)) (some (j : Int)) = (xs.drop i).take (j - i) := by
  unfold cutV
  rw [HT.sIx_nat, HT.sIx_nat]
  by_cases h : i ≤ xs.length
  · rw [Nat.min_eq_left h]
    by_cases h2 : j ≤ xs.length
    · rw [Nat.min_eq_left h2]
    · rw [Nat.min_eq_right (by omega), List.take_of_length_le (by rw [List.length_drop]; exact Nat.le_refl _), List.take_of_length_le (by rw [List.length_drop]; omega)]
  · rw [show xs.drop (min i xs.length) = [] from List.drop_of_length_le (by omega), List.take_nil, List.drop_of_length_le (by omega), List.take_nil]
theorem sIx_neg (n d k : Nat) (h : 0 < k) : HT.sIx n d (some (-(k : Int))) = n - k := by
  show (if -(k : Int) < 0 then (-(k : Int) + (n : Int)).toNat else _) = _
  rw [if_pos (by omega)]
  omega
theorem cut_ton (xs : List V) (k : Nat) (h : 0 < k) : cutV xs none (some (-(k : Int))) = xs.take (xs.length - k) := by
  unfold cutV
  rw [HT.sIx_none, sIx_neg _ _ _ h, List.drop_zero, Nat.sub_zero]
theorem cut_fromn (xs : List V) (k : Nat) (h : 0 < k) : cutV xs (some (-(k : Int))) none = xs.drop (xs.length - k) := by
  unfold cutV
  rw [HT.sIx_none, sIx_neg _ _ _ h]
  exact List.take_of_length_le (by rw [List.length_drop]; exact Nat.le_refl _)

/-! own rules: methods and makings whose errors depend on the slots (for a try), keywords, an own __contains__ -/
section
variable {X : Cx} {CX : CXT} {k n : Nat} {C f : Addr} {fd : FuncData} {ps ks : List Str} {sp : Sp} {E : L2.St → XK} {dvs : List V} {ds : List Value} {o e : Expr} {es : List Expr} {kws : List Keyword} {m x : Str} {p apos pos : Pos} {ta : TE} {t tk : TA}
  {g : List Value → List Value → List Value} {gV : List V → List V → List V}
theorem run_at {pins : List (Addr × Obj)} {σ : L2.St} {H : Hp} {s : Shared} {Q : VK} {E : XK} {us0 us : List Value} {kw : List (Str × Value)} {vs : List V} (F : FnOk X.prog X.w X.K X.mg X.base CX k f fd ps sp) (hr : Room k X.A) (hx : PassesAt CX X σ E)
    (I : Inv X pins σ H s) (hb : BindsTo s fd ⟨us0, kw⟩ (ps.zip us)) (r : Vals vs us) (h : sp vs H Q E) : wpAny (model X.prog X.w) X.A (call (.ref f) us0 kw) (EP X pins σ Q) X.xe s := by
  refine wpAny_call (codeAny_mono (F.run X.A X.stack s H ⟨us0, kw⟩ us vs Q E hr I.env0 hb r h) fun r s' hq => ?_)
  cases r with
  | error er => exact hx pins H s er s' I hq
  | ok fl => cases fl with
    | ret u => exact I.after hq
    | next => exact hq.elim
    | brk => exact hq.elim
    | cont => exact hq.elim
/-- o.m(e, .., k = v, ..) -/
def tMA (C : Addr) (m : Str) (n l : Nat) (sp : Sp) (gV : List V → List V → List V) (E : L2.St → XK) (ta : TE) (t tk : TA) : TE := fun σ H Q => ta σ H fun x H1 => ∃ a dx fs, x = .ref a ∧ H1 a = some (.ins C dx fs) ∧ fs.lookup m = none ∧
  t σ H1 fun vs H2 => tk σ H2 fun zs H3 => vs.length = n ∧ zs.length = l ∧ sp (gV (x :: vs) zs) H3 Q (E σ)
theorem pe_mK {pl : Sem Bool} (he : PE X o ta) (c : Cls X.K C) (hm : Meth X.K C m f) (F : FnOk X.prog X.w X.K X.mg X.base CX k f fd ps sp) (hr : Room k X.A) (hb : KBn X.K fd ps (n + 1) ks g gV) (hx : ∀ σ, PassesAt CX X σ (E σ)) (ha : PA X (e :: es) t) (hkw : PK X kws tk)
    (hall : (backToKw pos (keywordEach kws X.env)).all (·.1.isSome) = true := by rfl) (hks : (backToKw pos (keywordEach kws X.env)).filterMap (·.1) = ks := by rfl)
    (hst : starEach (e :: es) X.env = (false, eval e X.env) :: starEach es X.env := by rfl) (hpl : ((backTo pos (starEach (e :: es) X.env)).any (·.1) || (backToKw pos (keywordEach kws X.env)).any (·.1.isNone)) = false := by rfl)
    (ht : eval (.Call (.Attribute o m apos) (e :: es) kws pos) X.env = (do
      let ov ← eval o X.env
      standAt apos.atName
      let (f, first) ← holding [ov] (getMethod ov m pl)
      callWith pos f first (backTo pos (starEach (e :: es) X.env)) (backToKw pos (keywordEach kws X.env))) := by rfl) :
    PE X (.Call (.Attribute o m apos) (e :: es) kws pos) (tMA C m n ks.length sp gV E ta t tk) := by
  refine ⟨fun pins s σ H Q I h => PySem.W.methodCall_KW (pl := pl) (thn (he.run pins s σ H _ I h) fun u s1 ⟨x, H1, I1, rx, a, dx, fs, ex, ea, l, q⟩ => ?_) ht⟩
  subst ex
  obtain rfl : u = Value.ref a := rx
  refine getmeth_ok I1 ea c hm l (PySem.W.callWith_KW (first := [.ref a]) (h₀ := X.base) I.ok.mod.kin hm.kp hall (thn (ha.run pos pins s1 σ H1 _ I1 q) fun us s2 ⟨vs, H2, I2, r, q2⟩ => ?_) hpl hst)
  refine thn (hkw.run pos pins s2 σ H2 _ I2 q2) fun ws s3 ⟨zs, H3, I3, rz, l1, l2, q3⟩ => ⟨I3.kIn, ?_⟩
  rw [hks]
  have r1 : Vals (V.ref a :: vs) (Value.ref a :: us) := .cons rfl r
  exact run_at F hr (hx σ) I3 (hb.to s3 (Value.ref a :: us) ws I3.kIn (by rw [List.length_cons, ← r.length, l1]) (rz.length.symm.trans l2)) (hb.rel r1 rz) q3
theorem pe_mK0 {pl : Sem Bool} (he : PE X o ta) (c : Cls X.K C) (hm : Meth X.K C m f) (F : FnOk X.prog X.w X.K X.mg X.base CX k f fd ps sp) (hr : Room k X.A) (hb : KBn X.K fd ps 1 ks g gV) (hx : ∀ σ, PassesAt CX X σ (E σ)) (hkw : PK X kws tk)
    (hall : (backToKw pos (keywordEach kws X.env)).all (·.1.isSome) = true := by rfl) (hks : (backToKw pos (keywordEach kws X.env)).filterMap (·.1) = ks := by rfl)
    (hpl : ((backTo pos (starEach [] X.env)).any (·.1) || (backToKw pos (keywordEach kws X.env)).any (·.1.isNone)) = false := by rfl)
    (ht : eval (.Call (.Attribute o m apos) [] kws pos) X.env = (do
      let ov ← eval o X.env
      standAt apos.atName
      let (f, first) ← holding [ov] (getMethod ov m pl)
      callWith pos f first (backTo pos (starEach [] X.env)) (backToKw pos (keywordEach kws X.env))) := by rfl) :
    PE X (.Call (.Attribute o m apos) [] kws pos) (tMA C m 0 ks.length sp gV E ta tNil tk) := by
  refine ⟨fun pins s σ H Q I h => PySem.W.methodCall_KW (pl := pl) (thn (he.run pins s σ H _ I h) fun u s1 ⟨x, H1, I1, rx, a, dx, fs, ex, ea, l, q⟩ => ?_) ht⟩
  subst ex
  obtain rfl : u = Value.ref a := rx
  refine getmeth_ok I1 ea c hm l (PySem.W.callWith_KW0 (first := [.ref a]) (h₀ := X.base) I.ok.mod.kin hm.kp hall (thn (hkw.run pos pins s1 σ H1 _ I1 q) fun ws s3 ⟨zs, H3, I3, rz, l1, l2, q3⟩ => ⟨I3.kIn, ?_⟩) hpl)
  rw [hks]
  have r1 : Vals ([V.ref a]) ([Value.ref a]) := .cons rfl .nil
  exact run_at F hr (hx σ) I3 (hb.to s3 [Value.ref a] ws I3.kIn rfl (rz.length.symm.trans l2)) (hb.rel r1 rz) q3
/-- o.m(e, ..), the wish of errors by the slots -/
def tMS (C : Addr) (m : Str) (sp : Sp) (dvs : List V) (E : L2.St → XK) (ta : TE) (t : TA) : TE := fun σ H Q => ta σ H fun x H1 => ∃ a dx fs, x = .ref a ∧ H1 a = some (.ins C dx fs) ∧ fs.lookup m = none ∧ t σ H1 fun vs H2 => sp (x :: (vs ++ dvs)) H2 Q (E σ)
theorem pe_mS {pl : Sem Bool} (he : PE X o ta) (c : Cls X.K C) (hm : Meth X.K C m f) (F : FnOk X.prog X.w X.K X.mg X.base CX k f fd ps sp) (hr : Room k X.A) (hb : Binds X.K fd ps ds) (hd : Vals dvs ds) (hx : ∀ σ, PassesAt CX X σ (E σ)) (ha : PA X (e :: es) t)
    (hst : starEach (e :: es) X.env = (false, eval e X.env) :: starEach es X.env := by rfl) (hpl : (backTo pos (starEach es X.env)).any (·.1) = false := by rfl)
    (ht : eval (.Call (.Attribute o m apos) (e :: es) [] pos) X.env = (do
      let ov ← eval o X.env
      standAt apos.atName
      let (f, first) ← holding [ov] (getMethod ov m pl)
      callWith pos f first (backTo pos (starEach (e :: es) X.env)) (backToKw pos (keywordEach [] X.env))) := by rfl) :
    PE X (.Call (.Attribute o m apos) (e :: es) [] pos) (tMS C m sp dvs E ta t) := by
  refine ⟨fun pins s σ H Q I h => PySem.W.methodCall_KW (pl := pl) (thn (he.run pins s σ H _ I h) fun u s1 ⟨x, H1, I1, rx, a, dx, fs, ex, ea, l, q⟩ => ?_) ht⟩
  subst ex
  obtain rfl : u = Value.ref a := rx
  refine getmeth_ok I1 ea c hm l (PySem.W.callWith_K (first := [.ref a]) (h₀ := X.base) I.ok.mod.kin hm.kp (thn (ha.run pos pins s1 σ H1 _ I1 q) fun us s2 ⟨vs, H2, I2, r, q2⟩ => ⟨I2.kIn, ?_⟩) hst hpl)
  have r2 : Vals (V.ref a :: (vs ++ dvs)) (Value.ref a :: us ++ ds) := .cons rfl (r.append hd)
  have hl : (Value.ref a :: us ++ ds).length = ps.length := by rw [← r2.length]; exact F.len _ _ _ _ q2
  exact run_at (us0 := Value.ref a :: us) F hr (hx σ) I2 (hb s2 (Value.ref a :: us) I2.kIn hl) r2 q2
theorem pe_mS0 {pl : Sem Bool} (he : PE X o ta) (c : Cls X.K C) (hm : Meth X.K C m f) (F : FnOk X.prog X.w X.K X.mg X.base CX k f fd ps sp) (hr : Room k X.A) (hb : Binds X.K fd ps ds) (hd : Vals dvs ds) (hx : ∀ σ, PassesAt CX X σ (E σ))
    (ht : eval (.Call (.Attribute o m apos) [] [] pos) X.env = (do
      let ov ← eval o X.env
      standAt apos.atName
      let (f, first) ← holding [ov] (getMethod ov m pl)
      callWith pos f first (backTo pos (starEach [] X.env)) (backToKw pos (keywordEach [] X.env))) := by rfl) :
    PE X (.Call (.Attribute o m apos) [] [] pos) (tMS C m sp dvs E ta tNil) := by
  refine ⟨fun pins s σ H Q I h => PySem.W.methodCall_KW (pl := pl) (thn (he.run pins s σ H _ I h) fun u s1 ⟨x, H1, I1, rx, a, dx, fs, ex, ea, l, q⟩ => ?_) ht⟩
  subst ex
  obtain rfl : u = Value.ref a := rx
  have r2 : Vals (V.ref a :: ([] ++ dvs)) (Value.ref a :: [] ++ ds) := .cons rfl hd
  have hl : (Value.ref a :: [] ++ ds).length = ps.length := by rw [← r2.length]; exact F.len _ _ _ _ q
  refine getmeth_ok I1 ea c hm l (PySem.W.callWith_K0 (first := [.ref a]) I1.kIn hm.kp (run_at (us0 := [Value.ref a]) F hr (hx σ) I1 (hb s1 [Value.ref a] I1.kIn hl) r2 q))
/-- C(e, ..), the wish of errors by the slots -/
def tKS (C : Addr) (sp : Sp) (dvs : List V) (E : L2.St → XK) (t : TA) : TE := fun σ H Q => t σ H fun vs H1 => ∀ x dx, H1 x = none → H1 dx = none → dx ≠ x →
  sp (.ref x :: (vs ++ dvs)) (upd (upd H1 dx (.own x)) x (.ins C dx [])) (fun v H2 => v = .non ∧ Q (.ref x) H2) (E σ)
theorem pe_kS (M : Mk X.K C f) (F : FnOk X.prog X.w X.K X.mg X.base CX k f fd ps sp) (hr : Room (k + 1) X.A) (hg : Gl X x) (hm : X.mg x = some (.ref C)) (hb : Binds X.K fd ps ds) (hd : Vals dvs ds) (hx : ∀ σ, PassesAt CX X σ (E σ)) (ha : PA X (e :: es) t)
    (hdb : (x == ("__debug__" : Str)) = false := by decide) (he : starEach (e :: es) X.env = (false, eval e X.env) :: starEach es X.env := by rfl) (hpl : (backTo pos (starEach es X.env)).any (·.1) = false := by rfl) :
    PE X (.Call (.Name x p) (e :: es) [] pos) (tKS C sp dvs E t) := by
  refine ⟨fun pins s σ H Q I h => wpAny_Call_Name_kw (ld_glob I hg hm (PySem.W.callWith_K (h₀ := X.base) I.ok.mod.kin M.kp (thn (ha.run pos pins s σ H _ I h) fun us s1 ⟨vs, H1, I1, r, q⟩ => ⟨I1.kIn, ?_⟩) he hpl) hdb)⟩
  have hq := q (s1.heap.objs.size + 1) s1.heap.objs.size (I1.hok.fresh (Nat.le_succ _)) (I1.hok.fresh (Nat.le_refl _)) (Nat.ne_of_lt (Nat.lt_succ_self _))
  have I2 := Inv.made (C := C) I1
  have r2 : Vals (V.ref (s1.heap.objs.size + 1) :: (vs ++ dvs)) (Value.ref (s1.heap.objs.size + 1) :: us ++ ds) := .cons rfl (r.append hd)
  have hl : (Value.ref (s1.heap.objs.size + 1) :: us ++ ds).length = ps.length := by rw [← r2.length]; exact F.len _ _ _ _ hq
  refine wpAny_call (make_map (f := f) I1.kIn M.makes M.init (beq_iff_eq.mp M.fn) (codeAny_mono (F.run _ X.stack _ _ ⟨Value.ref (s1.heap.objs.size + 1) :: us, []⟩ (Value.ref (s1.heap.objs.size + 1) :: us ++ ds) _ _ (E σ) (hr.make C us [])
    (I2.env0.make C us []) (hb _ (Value.ref (s1.heap.objs.size + 1) :: us) I2.kIn hl) r2 hq) fun r s' hz => ?_))
  cases r with
  | error er => exact hx σ pins _ _ er s' I2 hz
  | ok fl => cases fl with
    | ret u =>
      obtain ⟨v, H', I3, rv, ev, q3⟩ := I2.after hz
      subst ev
      exact ⟨rv, ⟨V.ref (s1.heap.objs.size + 1), H', I3, rfl, q3⟩⟩
    | next => exact hz.elim
    | brk => exact hz.elim
    | cont => exact hz.elim
theorem passAll {X : Cx} (σ : L2.St) : PassesAt (L2.CX X.prog X.w) X σ E0 := fun pins H s er s' I h => passL pins σ H s er s' I h
/-- y in o, o of a class with its own __contains__ -/
def rInOwn (C : Addr) (sp : Sp) (E : XK) (neg : Bool) : R2 := fun y x H Q => ∃ a dx fs, x = .ref a ∧ H a = some (.ins C dx fs) ∧ sp [.ref a, y] H (fun v H' => ∃ b : Bool, v = .bl b ∧ Q (.bl (b != neg)) H') E
theorem has_own {pins : List (Addr × Obj)} {σ : L2.St} {H : Hp} {s : Shared} {E : XK} {a dx : Addr} {fs : List (Str × V)} {y : V} {v : Value} {Q : Bool → Hp → Prop} (c : Cls X.K C) (hm : Meth X.K C "__contains__" f) (F : FnOk X.prog X.w X.K X.mg X.base CX k f fd ps sp) (hr : Room k X.A)
    (hb : Binds X.K fd ps []) (hx : Passes CX X E) (I : Inv X pins σ H s) (ea : H a = some (.ins C dx fs)) (ry : RelV y v) (h : sp [.ref a, y] H (fun z H' => ∃ b : Bool, z = .bl b ∧ Q b H') E) :
    wpAny (model X.prog X.w) X.A (contains (.ref a) v) (fun b s' => ∃ H', Inv X pins σ H' s' ∧ Q b H') X.xe s := by
  obtain ⟨mA, O, _⟩ := ins_get I.hok ea
  obtain ⟨od, J, _⟩ := O.look
  unfold contains
  refine wpAny_holding (wpAny_bind (wpAny_bind (J.type.here ((PySem.W.looks_findIn I.kIn hm.at_).here ?_))))
  rw [if_neg (by simp)]
  refine wpAny_bind (PySem.W.unlessNone_K I.kIn J hm.at_ hm.fn (wpAny_mono (run_fn (us := [.ref a, v]) (vs := [.ref a, y]) F hr hb .nil hx I (.cons rfl (.cons ry .nil)) h) (fun u s' hu => ?_) fun _ _ z => z))
  obtain ⟨z, H', I', rz, b, rfl, q⟩ := hu
  obtain rfl : u = Value.bool b := rz
  exact wpAny_truthy_bool ⟨H', I', q⟩
theorem op_inOwn {E : XK} (c : Cls X.K C) (hm : Meth X.K C "__contains__" f) (F : FnOk X.prog X.w X.K X.mg X.base CX k f fd ps sp) (hr : Room k X.A) (hb : Binds X.K fd ps []) (hx : Passes CX X E) : OpR X (compareOp .In) (rInOwn C sp E false) := by
  intro pins s σ H y x v u Q I ry rx h
  obtain ⟨a, dx, fs, rfl, ea, h⟩ := h
  obtain rfl : u = Value.ref a := rx
  refine wpAny_bind (wpAny_mono (has_own (Q := fun b H' => Q (.bl b) H') c hm F hr hb hx I ea ry (by simpa using h)) (fun b s' hz => ?_) fun _ _ z => z)
  obtain ⟨H', I', q⟩ := hz
  exact wpAny_pure ⟨.bl b, H', I', rfl, q⟩
theorem op_notInOwn {E : XK} (c : Cls X.K C) (hm : Meth X.K C "__contains__" f) (F : FnOk X.prog X.w X.K X.mg X.base CX k f fd ps sp) (hr : Room k X.A) (hb : Binds X.K fd ps []) (hx : Passes CX X E) : OpR X (compareOp .NotIn) (rInOwn C sp E true) := by
  intro pins s σ H y x v u Q I ry rx h
  obtain ⟨a, dx, fs, rfl, ea, h⟩ := h
  obtain rfl : u = Value.ref a := rx
  refine wpAny_bind (wpAny_mono (has_own (Q := fun b H' => Q (.bl (!b)) H') c hm F hr hb hx I ea ry (by simpa using h)) (fun b s' hz => ?_) fun _ _ z => z)
  obtain ⟨H', I', q⟩ := hz
  exact wpAny_pure ⟨.bl (!b), H', I', rfl, q⟩
end
/-! the same rules with K named (in comprehensions and trys the context is a bound one) -/
section
variable {X : Cx} {K : PySem.W.Frag}
theorem pe_fldK {e : Expr} {ta : TE} {f : Str} {pos : Pos} (h : X.K = K) (he : PE X e ta) (hb : attributeBase e f X.env (eval e X.env) = eval e X.env) : PE X (.Attribute e f pos) (tFld K ta f) := h ▸ pe_fld he hb
theorem ixK {r : PySem.W.Frag → V → V → Hp → VK → Prop} (h : X.K = K) (q : IxR X (r X.K)) : IxR X (r K) := h ▸ q
theorem slK {r : PySem.W.Frag → V → Option Int → Option Int → Hp → VK → Prop} (h : X.K = K) (q : SlR X (r X.K)) : SlR X (r K) := h ▸ q
theorem opK {f : Value → Value → Sem Value} {r : PySem.W.Frag → R2} (h : X.K = K) (q : OpR X f (r X.K)) : OpR X f (r K) := h ▸ q
theorem callK {v : Value} {r : PySem.W.Frag → List V → Hp → VK → Prop} (h : X.K = K) (q : CallR X v (r X.K)) : CallR X v (r K) := h ▸ q
def rLenK (K : PySem.W.Frag) : List V → Hp → VK → Prop := fun xs H Q => ∃ x n, xs = [x] ∧ LenV K x H n ∧ Q (.int n) H
def rListK (K : PySem.W.Frag) : List V → Hp → VK → Prop := fun xs H Q => ∃ p ys, xs = [.ref p] ∧ (SqL K H p ys ∨ SqT K H p ys) ∧ ∀ l, H l = none → Q (.ref l) (upd H l (.lst ys))
end
/-- what the top says of an own class without errors -/
structure ClsT (K : PySem.W.Frag) (mg : Str → Option Value) (nm : Str) (C : Addr) : Prop where
  cl : Cls K C
  mgC : mg nm = some (.ref C)
  ha : PySem.W.findIn K (.ref C) "__class__" = some (some (.builtin "object.__class__"))
  hn : PySem.W.specialIn K (.builtin "object.__class__") "__get__" = some (some (.builtin "getset_descriptor.__get__"))
  ht : PySem.W.takesIn K (.builtin "object.__class__") = some true
  hm : PySem.W.mroIn K C (.type "object") = some true
theorem kit_self {K : PySem.W.Frag} {t : Value} (h : (t == t) = true) : PySem.W.kitOne K t t = some true := by
  unfold PySem.W.kitOne
  rw [if_pos h]
theorem ClsT.ty {K : PySem.W.Frag} {mg : Str → Option Value} {nm : Str} {C : Addr} (c : ClsT K mg nm C) {H : Hp} {a dx : Addr} {fs : List (Str × V)} (e : H a = some (.ins C dx fs)) : TyX K H (.ref a) (.ref C) := .base (.ins e c.cl c.ha c.hn c.ht c.hm)
/-! one rule or another, by the proof's choice -/
theorem pe_either {X : Cx} {e : Expr} {t1 t2 : TE} (h1 : PE X e t1) (h2 : PE X e t2) : PE X e (fun σ H Q => t1 σ H Q ∨ t2 σ H Q) := ⟨fun pins s σ H Q I h => h.elim (h1.run pins s σ H Q I) (h2.run pins s σ H Q I)⟩
def iSeq (K : PySem.W.Frag) (tl : TE) : TI := fun σ H R => iList K tl σ H R ∨ iTup K tl σ H R
theorem pi_seq {X : Cx} {tg l : Expr} {tl : TE} (h : PE X l tl) : PI X tg l (iSeq X.K tl) := ⟨fun pins s σ H R I h' => h'.elim ((pi_list h).run pins s σ H R I) ((pi_tup h).run pins s σ H R I)⟩
theorem hu_of {A : Around} {k : Nat} (hr : Room k A) : A.units + 1 < cLine := by
  have := hr.un
  omega

structure ExcT (K : PySem.W.Frag) (mg : Str → Option Value) (nm : Str) (C : Addr) : Prop where
  gC : mg nm = some (.ref C)
  xP : PySem.W.excIn K C [.type "ValueError", .type "Exception", .type "BaseException", .type "object"] "ValueError.__new__" = true
  kC : PySem.W.keepIn K (.ref C) = true
  bP : PySem.W.subIn K (.ref C) (.type "BaseException") = some true
  tP : PySem.W.typeIn K (.ref C) = some (.type "type")
  iP : PySem.W.isClsIn K C = true
  cP : ExcC K C
  vP : PySem.W.kitOne K (.ref C) (.type "ValueError") = some true
structure Env (K : PySem.W.Frag) (mg : Str → Option Value) where
  c_MeridianError : Addr
  c_BadArgument : Addr
  c_BadBytes : Addr
  a_encode_number : Addr
  d_encode_number : FuncData
  a_decode_number : Addr
  d_decode_number : FuncData
  a_encode_signed : Addr
  d_encode_signed : FuncData
  a_decode_signed : Addr
  d_decode_signed : FuncData
  a_encode_flag : Addr
  d_encode_flag : FuncData
  a_decode_flag : Addr
  d_decode_flag : FuncData
  a_encode_value : Addr
  d_encode_value : FuncData
  a_decode_value : Addr
  d_decode_value : FuncData
  a__check_index : Addr
  d__check_index : FuncData
  a__last_index : Addr
  d__last_index : FuncData
  a__law_cell : Addr
  d__law_cell : FuncData
  a__law_is_int : Addr
  d__law_is_int : FuncData
  a__law_varint : Addr
  d__law_varint : FuncData
  a__law_signed : Addr
  d__law_signed : FuncData
  a__law_draws : Addr
  d__law_draws : FuncData
  a__law_block : Addr
  d__law_block : FuncData
  a__law_number : Addr
  d__law_number : FuncData
  a__law_refused : Addr
  d__law_refused : FuncData
  a__law_back : Addr
  d__law_back : FuncData
  a_law : Addr
  d_law : FuncData
  F_encode_number : Fun K "encode_number" "encode_number" s_encode_number a_encode_number d_encode_number
  b_encode_number : Binds K d_encode_number ["number"] []
  g_encode_number : mg "encode_number" = some (.ref a_encode_number)
  F_decode_number : FunD K "decode_number" "decode_number" (defArgs s_decode_number) (defBody s_decode_number) (defScope s_decode_number) [.int 0] [] a_decode_number d_decode_number
  w1_decode_number : List Value
  v1_decode_number : Vals [.int 0] w1_decode_number
  b1_decode_number : Binds K d_decode_number ["block", "at"] w1_decode_number
  w2_decode_number : List Value
  v2_decode_number : Vals [] w2_decode_number
  b2_decode_number : Binds K d_decode_number ["block", "at"] w2_decode_number
  g_decode_number : mg "decode_number" = some (.ref a_decode_number)
  F_encode_signed : Fun K "encode_signed" "encode_signed" s_encode_signed a_encode_signed d_encode_signed
  b_encode_signed : Binds K d_encode_signed ["number"] []
  g_encode_signed : mg "encode_signed" = some (.ref a_encode_signed)
  F_decode_signed : FunD K "decode_signed" "decode_signed" (defArgs s_decode_signed) (defBody s_decode_signed) (defScope s_decode_signed) [.int 0] [] a_decode_signed d_decode_signed
  w1_decode_signed : List Value
  v1_decode_signed : Vals [.int 0] w1_decode_signed
  b1_decode_signed : Binds K d_decode_signed ["block", "at"] w1_decode_signed
  w2_decode_signed : List Value
  v2_decode_signed : Vals [] w2_decode_signed
  b2_decode_signed : Binds K d_decode_signed ["block", "at"] w2_decode_signed
  g_decode_signed : mg "decode_signed" = some (.ref a_decode_signed)
  F_encode_flag : Fun K "encode_flag" "encode_flag" s_encode_flag a_encode_flag d_encode_flag
  b_encode_flag : Binds K d_encode_flag ["flag"] []
  g_encode_flag : mg "encode_flag" = some (.ref a_encode_flag)
  F_decode_flag : FunD K "decode_flag" "decode_flag" (defArgs s_decode_flag) (defBody s_decode_flag) (defScope s_decode_flag) [.int 0] [] a_decode_flag d_decode_flag
  w1_decode_flag : List Value
  v1_decode_flag : Vals [.int 0] w1_decode_flag
  b1_decode_flag : Binds K d_decode_flag ["block", "at"] w1_decode_flag
  w2_decode_flag : List Value
  v2_decode_flag : Vals [] w2_decode_flag
  b2_decode_flag : Binds K d_decode_flag ["block", "at"] w2_decode_flag
  g_decode_flag : mg "decode_flag" = some (.ref a_decode_flag)
  F_encode_value : Fun K "encode_value" "encode_value" s_encode_value a_encode_value d_encode_value
  b_encode_value : Binds K d_encode_value ["value"] []
  g_encode_value : mg "encode_value" = some (.ref a_encode_value)
  F_decode_value : FunD K "decode_value" "decode_value" (defArgs s_decode_value) (defBody s_decode_value) (defScope s_decode_value) [.int 0] [] a_decode_value d_decode_value
  w1_decode_value : List Value
  v1_decode_value : Vals [.int 0] w1_decode_value
  b1_decode_value : Binds K d_decode_value ["block", "at"] w1_decode_value
  w2_decode_value : List Value
  v2_decode_value : Vals [] w2_decode_value
  b2_decode_value : Binds K d_decode_value ["block", "at"] w2_decode_value
  g_decode_value : mg "decode_value" = some (.ref a_decode_value)
  F__check_index : Fun K "_check_index" "_check_index" s__check_index a__check_index d__check_index
  b__check_index : Binds K d__check_index ["block", "at"] []
  g__check_index : mg "_check_index" = some (.ref a__check_index)
  F__last_index : Fun K "_last_index" "_last_index" s__last_index a__last_index d__last_index
  b__last_index : Binds K d__last_index ["block", "at"] []
  g__last_index : mg "_last_index" = some (.ref a__last_index)
  F__law_cell : Fun K "_law_cell" "_law_cell" s__law_cell a__law_cell d__law_cell
  b__law_cell : Binds K d__law_cell ["script", "k"] []
  g__law_cell : mg "_law_cell" = some (.ref a__law_cell)
  F__law_is_int : Fun K "_law_is_int" "_law_is_int" s__law_is_int a__law_is_int d__law_is_int
  b__law_is_int : Binds K d__law_is_int ["thing"] []
  g__law_is_int : mg "_law_is_int" = some (.ref a__law_is_int)
  F__law_varint : Fun K "_law_varint" "_law_varint" s__law_varint a__law_varint d__law_varint
  b__law_varint : Binds K d__law_varint ["number"] []
  g__law_varint : mg "_law_varint" = some (.ref a__law_varint)
  F__law_signed : Fun K "_law_signed" "_law_signed" s__law_signed a__law_signed d__law_signed
  b__law_signed : Binds K d__law_signed ["number"] []
  g__law_signed : mg "_law_signed" = some (.ref a__law_signed)
  F__law_draws : Fun K "_law_draws" "_law_draws" s__law_draws a__law_draws d__law_draws
  b__law_draws : Binds K d__law_draws ["cell", "many", "limit"] []
  g__law_draws : mg "_law_draws" = some (.ref a__law_draws)
  F__law_block : Fun K "_law_block" "_law_block" s__law_block a__law_block d__law_block
  b__law_block : Binds K d__law_block ["cell", "many"] []
  g__law_block : mg "_law_block" = some (.ref a__law_block)
  F__law_number : Fun K "_law_number" "_law_number" s__law_number a__law_number d__law_number
  b__law_number : Binds K d__law_number ["cell"] []
  g__law_number : mg "_law_number" = some (.ref a__law_number)
  F__law_refused : Fun K "_law_refused" "_law_refused" s__law_refused a__law_refused d__law_refused
  b__law_refused : Binds K d__law_refused ["which", "block", "at"] []
  g__law_refused : mg "_law_refused" = some (.ref a__law_refused)
  F__law_back : Fun K "_law_back" "_law_back" s__law_back a__law_back d__law_back
  b__law_back : Binds K d__law_back ["actual", "thing", "end"] []
  g__law_back : mg "_law_back" = some (.ref a__law_back)
  F_law : Fun K "law" "law" s_law a_law d_law
  b_law : Binds K d_law ["script"] []
  e_MeridianError : ExcT K mg "MeridianError" c_MeridianError
  u_MeridianError_MeridianError : PySem.W.exmOne K (.ref c_MeridianError) (.ref c_MeridianError) = some true
  q_MeridianError_MeridianError : PySem.W.kitOne K (.ref c_MeridianError) (.ref c_MeridianError) = some true
  u_MeridianError_BadArgument : PySem.W.exmOne K (.ref c_MeridianError) (.ref c_BadArgument) = some false
  q_MeridianError_BadArgument : PySem.W.kitOne K (.ref c_MeridianError) (.ref c_BadArgument) = some false
  u_MeridianError_BadBytes : PySem.W.exmOne K (.ref c_MeridianError) (.ref c_BadBytes) = some false
  q_MeridianError_BadBytes : PySem.W.kitOne K (.ref c_MeridianError) (.ref c_BadBytes) = some false
  e_BadArgument : ExcT K mg "BadArgument" c_BadArgument
  u_BadArgument_MeridianError : PySem.W.exmOne K (.ref c_BadArgument) (.ref c_MeridianError) = some true
  q_BadArgument_MeridianError : PySem.W.kitOne K (.ref c_BadArgument) (.ref c_MeridianError) = some true
  u_BadArgument_BadArgument : PySem.W.exmOne K (.ref c_BadArgument) (.ref c_BadArgument) = some true
  q_BadArgument_BadArgument : PySem.W.kitOne K (.ref c_BadArgument) (.ref c_BadArgument) = some true
  u_BadArgument_BadBytes : PySem.W.exmOne K (.ref c_BadArgument) (.ref c_BadBytes) = some false
  q_BadArgument_BadBytes : PySem.W.kitOne K (.ref c_BadArgument) (.ref c_BadBytes) = some false
  e_BadBytes : ExcT K mg "BadBytes" c_BadBytes
  u_BadBytes_MeridianError : PySem.W.exmOne K (.ref c_BadBytes) (.ref c_MeridianError) = some true
  q_BadBytes_MeridianError : PySem.W.kitOne K (.ref c_BadBytes) (.ref c_MeridianError) = some true
  u_BadBytes_BadArgument : PySem.W.exmOne K (.ref c_BadBytes) (.ref c_BadArgument) = some false
  q_BadBytes_BadArgument : PySem.W.kitOne K (.ref c_BadBytes) (.ref c_BadArgument) = some false
  u_BadBytes_BadBytes : PySem.W.exmOne K (.ref c_BadBytes) (.ref c_BadBytes) = some true
  q_BadBytes_BadBytes : PySem.W.kitOne K (.ref c_BadBytes) (.ref c_BadBytes) = some true
  z_len : mg "len" = none
  z_abs : mg "abs" = none
  z_int : mg "int" = none
  z_isinstance : mg "isinstance" = none
  z_bool : mg "bool" = none
  z_range : mg "range" = none
  z_tuple : mg "tuple" = none
section
variable {P : Program} {w : World} {K : PySem.W.Frag} {mg : Str → Option Value} {base : Heap}
--PART /work/steering/wip/tools/pre.lean


--PART /work/steering/wip/tools/own.lean


--PART /work/steering/wip/parts/rets.lean

--PART /work/steering/wip/parts/num.lean
/-! ### base 128 -/
def vint (n : Int) : List Int := if n < 128 then [n] else (n % 128 + 128) :: vint (n / 128)
termination_by n.toNat
decreasing_by omega
theorem vint_lt {n : Int} (h : n < 128) : vint n = [n] := by rw [vint, if_pos h]
theorem vint_ge {n : Int} (h : ¬ n < 128) : vint n = (n % 128 + 128) :: vint (n / 128) := by rw [vint, if_neg h]
def NB : Int := 128 ^ 100
theorem vint_len : ∀ (k : Nat) (n : Int), n < 128 ^ (k + 1) → (vint n).length ≤ k + 1
  | 0, n, h => by
    have h' : n < 128 := by simpa using h
    rw [vint_lt h']
    exact Nat.le_refl _
  | k + 1, n, h => by
    by_cases c : n < 128
    · rw [vint_lt c]
      show 1 ≤ _
      omega
    · rw [vint_ge c, List.length_cons]
      have := vint_len k (n / 128) (by
        have e : (128 : Int) ^ (k + 1 + 1) = 128 ^ (k + 1) * 128 := Int.pow_succ ..
        rw [e] at h
        exact Int.ediv_lt_of_lt_mul (by decide) h)
      omega
theorem vint_len100 {n : Int} (h : n < NB) : (vint n).length ≤ 100 := vint_len 99 n h
theorem vint_ne (n : Int) : vint n ≠ [] := by
  by_cases c : n < 128
  · rw [vint_lt c]; simp
  · rw [vint_ge c]; simp
theorem vint_pos (n : Int) : 1 ≤ (vint n).length := by
  have := vint_ne n
  cases e : vint n with
  | nil => exact absurd e this
  | cons a r => simp
theorem vint_byte : ∀ (k : Nat) (n : Int), n < 128 ^ (k + 1) → 0 ≤ n → ∀ b ∈ vint n, 0 ≤ b ∧ b < 256
  | 0, n, h, h0, b, hb => by
    have h' : n < 128 := by simpa using h
    rw [vint_lt h'] at hb
    have : b = n := by simpa using hb
    omega
  | k + 1, n, h, h0, b, hb => by
    by_cases c : n < 128
    · rw [vint_lt c] at hb
      have : b = n := by simpa using hb
      omega
    · rw [vint_ge c] at hb
      rcases List.mem_cons.mp hb with e | e
      · omega
      · exact vint_byte k (n / 128) (by
          have e : (128 : Int) ^ (k + 1 + 1) = 128 ^ (k + 1) * 128 := Int.pow_succ ..
          rw [e] at h
          exact Int.ediv_lt_of_lt_mul (by decide) h) (by omega) b e
theorem vint_byte_NB {n : Int} (h : n < NB) (h0 : 0 ≤ n) : ∀ b ∈ vint n, 0 ≤ b ∧ b < 256 := vint_byte 99 n h h0
/-! ### numbers of the law -/
def lawNum (c : Int) : Int := if c < 10 ^ 18 then ([0, 1, 127, 128, 129, 16383, 16384, 16385, c] : List Int).getD (c % 9).toNat 0 else c % 10 ^ 60
theorem lawNum_lt {c : Int} (h : 0 ≤ c) : 0 ≤ lawNum c ∧ lawNum c < 10 ^ 60 := by
  unfold lawNum
  by_cases k : c < 10 ^ 18
  · rw [if_pos k]
    obtain ⟨j, hj, e⟩ : ∃ j : Nat, j < 9 ∧ (c % 9).toNat = j := ⟨_, by omega, rfl⟩
    rw [e]
    match j, hj with
    | 0, _ | 1, _ | 2, _ | 3, _ | 4, _ | 5, _ | 6, _ | 7, _ => exact ⟨by simp, by simp⟩
    | 8, _ => exact ⟨h, by show c < _; omega⟩
  · rw [if_neg k]
    exact ⟨Int.emod_nonneg _ (by decide), Int.emod_lt_of_pos _ (by decide)⟩
theorem num_NB {n : Int} (h : n < 10 ^ 60) : n < NB := Int.lt_of_lt_of_le h (by decide +kernel)
theorem canLay_dints : ∀ ns : List Int, PyData.canLayAll0 (ns.map PyData.int) = true
  | [] => rfl
  | n :: r => by
    show (PyData.canLay0 (.int n) && PyData.canLayAll0 (r.map PyData.int)) = true
    rw [canLay_dints r]
    rfl
theorem depth_dints : ∀ ns : List Int, PyData.depthAll (ns.map PyData.int) = 0
  | [] => by unfold PyData.depthAll; rfl
  | n :: r => by
    show PyData.depthAll (.int n :: r.map PyData.int) = 0
    unfold PyData.depthAll
    rw [depth_dints r]
    unfold PyData.depth
    rfl
theorem shaped_dInts (ns : List Int) : SeqAt.shaped (dInts ns) = true := by
  unfold SeqAt.shaped dInts
  rw [show PyData.canLay0 (.list (ns.map PyData.int)) = true from by unfold PyData.canLay0; exact canLay_dints ns]
  have : PyData.depth (.list (ns.map PyData.int)) = 1 := by
    unfold PyData.depth
    rw [depth_dints]
  rw [this]
  decide

--PART /work/steering/wip/parts/lawnum.lean
/-! ### the law's own helpers -/
def cell (ns : List Int) (k : Int) : Int := ((ns.getD k.toNat 0).natAbs : Int)
theorem cell_nn (ns : List Int) (k : Int) : 0 ≤ cell ns k := Int.natCast_nonneg _
def sp__law_cell (T : Env K mg) : Sp := fun vs H Q E => ∃ (a : Addr) (ns : List Int) (k : Int), vs = [.ref a, .int k] ∧ SqL K H a (ns.map V.int) ∧ 0 ≤ k ∧ Q (.int (cell ns k)) H
theorem ok__law_cell (T : Env K mg) : FnOk P w K mg base (L2.CX P w) 1 T.a__law_cell T.d__law_cell ["script", "k"] (sp__law_cell T) := by
  refine T.F__law_cell.okX sc__law_cell (fun vs H Q E h => by obtain ⟨_, _, _, rfl, _⟩ := h; rfl) (fun cdv A outer s H vs Q E hr h => ?_)
  obtain ⟨a, ns, k, rfl, hS, hk, h1⟩ := h
  refine ⟨_, (pss_cons (ps_if (pt_cmpR op_lt (pv 1) (pe_callB call_len (by rfl) T.z_len (by decide +kernel) (pa_cons (pv 0) pa_nil)) (nomark _)) (pss_one (ps_ret (pe_callB call_abs (by rfl) T.z_abs (by decide +kernel) (pa_cons (pe_callTy call_int1 (by rfl) T.z_int (by decide +kernel) (pa_cons (pe_ix ix_list (pv 0) (pv 1) (fun _ _ => rfl)) pa_nil)) pa_nil)))) pss_nil)
      (pss_one (ps_ret pe_int))), ?_⟩
  obtain ⟨j, rfl⟩ : ∃ j : Nat, k = (j : Int) := ⟨k.toNat, by omega⟩
  have hc : cell ns (j : Int) = ((ns.getD j 0).natAbs : Int) := rfl
  refine ⟨_, rfl, _, rfl, _, _, rfl, .inl ⟨_, hS, rfl⟩, _, _, rfl, rfl, _, rfl, iteD (fun c => ?_) (fun c => ?_)⟩
  · rw [List.length_map] at c
    have hj : j < ns.length := by omega
    refine ⟨_, rfl, _, rfl, a, _, _, _, rfl, rfl, hS, at_of (j := j) (v := V.int (ns.getD j 0)) rfl (by rw [List.getElem?_map, List.getD_eq_getElem?_getD, List.getElem?_eq_getElem hj]; rfl), .inl ⟨_, rfl, _, rfl, ?_⟩⟩
    have e : (if ns.getD j 0 < 0 then -ns.getD j 0 else ns.getD j 0) = cell ns (j : Int) := by
      rw [hc]
      split <;> omega
    show Q (V.int (if ns.getD j 0 < 0 then -ns.getD j 0 else ns.getD j 0)) H
    rw [e]
    exact h1
  · rw [List.length_map] at c
    show Q (.int 0) H
    have e : cell ns (j : Int) = 0 := by
      rw [hc, List.getD_eq_getElem?_getD, List.getElem?_eq_none (by omega)]
      rfl
    rw [e] at h1
    exact h1
def sp__law_is_int (T : Env K mg) : Sp := fun vs H Q E => ∃ (i : Int), vs = [.int i] ∧ Q (.bl true) H
theorem ok__law_is_int (T : Env K mg) : FnOk P w K mg base (L2.CX P w) 1 T.a__law_is_int T.d__law_is_int ["thing"] (sp__law_is_int T) := by
  refine T.F__law_is_int.okX sc__law_is_int (fun vs H Q E h => by obtain ⟨_, rfl, _⟩ := h; rfl) (fun cdv A outer s H vs Q E hr h => ?_)
  obtain ⟨i, rfl, h1⟩ := h
  refine ⟨_, (pss_one (ps_ret (pe_and (pe_callB call_isi (by rfl) T.z_isinstance (by decide +kernel) (pa_cons (pv 0) (pa_cons (pe_bltn (v := .ty "int") (by rfl) T.z_int (by decide +kernel) rfl) pa_nil))) (pe_one (pe_not (pe_callB call_isi (by rfl) T.z_isinstance (by decide +kernel) (pa_cons (pv 0) (pa_cons (pe_bltn (v := .ty "bool") (by rfl) T.z_bool (by decide +kernel) rfl) pa_nil)))))))), ?_⟩
  refine ⟨_, rfl, _, _, _, _, _, rfl, .ty _, .base (.int _), kit_ty (b := "int") (r := true) (by decide +kernel), _, rfl, iteT ?_⟩
  exact ⟨_, rfl, _, _, _, _, _, rfl, .ty _, .base (.int _), kit_ty (b := "bool") (r := false) (by decide +kernel), _, rfl, h1⟩

--PART /work/steering/wip/parts/draws.lean
/-! ### drawn numbers -/
def bigGo (l : Int) : Nat → Int → List Int
  | 0, _ => []
  | m + 1, c => c % l :: bigGo l m (c / l)
def mixGo (l : Int) : Nat → Int → Int → List Int
  | 0, _, _ => []
  | m + 1, k, x => ((x * 16807 + 7919 * k) % 2147483647) / 64 % l :: mixGo l m (k + 1) ((x * 16807 + 7919 * k) % 2147483647)
def draws (c : Int) (m : Nat) (l : Int) : List Int := if 10 ^ 18 ≤ c then bigGo l m c else mixGo l m 0 ((c * 48271 + 12345) % 2147483647)
theorem bigGo_len (l : Int) : ∀ m c, (bigGo l m c).length = m
  | 0, _ => rfl
  | m + 1, c => by
    show (bigGo l m _).length + 1 = _
    rw [bigGo_len l m]
theorem mixGo_len (l : Int) : ∀ m k x, (mixGo l m k x).length = m
  | 0, _, _ => rfl
  | m + 1, k, x => by
    show (mixGo l m _ _).length + 1 = _
    rw [mixGo_len l m]
theorem bigGo_mem {l : Int} (hl : 0 < l) : ∀ m c, ∀ d ∈ bigGo l m c, 0 ≤ d ∧ d < l
  | 0, _, d, h => by cases h
  | m + 1, c, d, h => by
    rcases List.mem_cons.mp h with e | e
    · rw [e]
      exact ⟨Int.emod_nonneg _ (by omega), Int.emod_lt_of_pos _ hl⟩
    · exact bigGo_mem hl m _ d e
theorem mixGo_mem {l : Int} (hl : 0 < l) : ∀ m k x, ∀ d ∈ mixGo l m k x, 0 ≤ d ∧ d < l
  | 0, _, _, d, h => by cases h
  | m + 1, k, x, d, h => by
    rcases List.mem_cons.mp h with e | e
    · rw [e]
      exact ⟨Int.emod_nonneg _ (by omega), Int.emod_lt_of_pos _ hl⟩
    · exact mixGo_mem hl m _ _ d e
theorem draws_len (c : Int) (m : Nat) (l : Int) : (draws c m l).length = m := by
  unfold draws
  split
  · exact bigGo_len l m c
  · exact mixGo_len l m _ _
theorem draws_mem {c : Int} {m : Nat} {l : Int} (hl : 0 < l) : ∀ d ∈ draws c m l, 0 ≤ d ∧ d < l := by
  unfold draws
  split
  · exact bigGo_mem hl m c
  · exact mixGo_mem hl m _ _
def sp__law_draws (T : Env K mg) : Sp := fun vs H Q E => ∃ c m l : Int, vs = [.int c, .int m, .int l] ∧ 0 ≤ m ∧ m ≤ 100000 ∧ 0 < l ∧ l < 1000000 ∧ ∀ p H', Same H H' → H p = none → Li H' p (draws c m.toNat l) → Q (.ref p) H'
theorem ok__law_draws (T : Env K mg) : FnOk P w K mg base (L2.CX P w) 1 T.a__law_draws T.d__law_draws ["cell", "many", "limit"] (sp__law_draws T) := by
  refine T.F__law_draws.okX sc__law_draws (fun vs H Q E h => by obtain ⟨_, _, _, rfl, _⟩ := h; rfl) (fun cdv A outer s H vs Q E hr h => ?_)
  obtain ⟨c, m, l, rfl, hm, hm2, hl, hl2, h1⟩ := h
  refine ⟨_, (pss_cons (ps_set (i := 3) sc__law_draws.nd rfl (Or.inl rfl) (pe_lst pa_nil))
      (pss_cons (ps_if (pt_cmpR op_ge (pv 0) (pe_op op_pow pe_int pe_int) (nomark _)) (pss_cons (ps_for (passes_of rfl) rfl (pi_range1 rfl T.z_range (pa_cons (pv 1) pa_nil)) (pg_name (i := 4) sc__law_draws.nd rfl (Or.inl rfl)) (pss_cons (ps_expr (pe_bm PySem.F.plainAttrs_list PySem.F.slot_list_append PySem.F.type_list_append mt_append (pv 3) (pa_cons (pe_op op_mod (pe_callTy call_int1 (by rfl) T.z_int (by decide +kernel) (pa_cons (pv 0) pa_nil)) (pv 2)) pa_nil)))
      (pss_one (ps_set (i := 0) sc__law_draws.nd rfl (Or.inl rfl) (pe_op op_fdiv (pv 0) (pv 2))))))
      (pss_one (ps_ret (pv 3)))) pss_nil)
      (pss_cons (ps_set (i := 5) sc__law_draws.nd rfl (Or.inl rfl) (pe_op op_mod (pe_callTy call_int1 (by rfl) T.z_int (by decide +kernel) (pa_cons (pe_op op_add (pe_op op_mul (pv 0) pe_int) pe_int) pa_nil)) pe_int))
      (pss_cons (ps_for (passes_of rfl) rfl (pi_range1 rfl T.z_range (pa_cons (pv 1) pa_nil)) (pg_name (i := 4) sc__law_draws.nd rfl (Or.inl rfl)) (pss_cons (ps_set (i := 5) sc__law_draws.nd rfl (Or.inl rfl) (pe_op op_mod (pe_callTy call_int1 (by rfl) T.z_int (by decide +kernel) (pa_cons (pe_op op_add (pe_op op_mul (pv 5) pe_int) (pe_op op_mul pe_int (pv 4))) pa_nil)) pe_int))
      (pss_one (ps_expr (pe_bm PySem.F.plainAttrs_list PySem.F.slot_list_append PySem.F.type_list_append mt_append (pv 3) (pa_cons (pe_op op_mod (pe_op op_fdiv (pv 5) pe_int) (pv 2)) pa_nil))))))
      (pss_one (ps_ret (pv 3))))))), ?_⟩
  refine ⟨Nat.zero_le _, fun p np => ?_⟩
  refine ⟨_, rfl, _, _, rfl, rfl, ⟨by decide, by decide, by decide⟩, _, _, rfl, rfl, _, rfl, iteD (fun k => ?_) (fun k => ?_)⟩
  · have k : 10 ^ 18 ≤ c := k
    have ed : draws c m.toNat l = bigGo l m.toNat c := if_pos k
    rw [ed] at h1
    refine ⟨_, rfl, m, rfl, by omega, by omega, for_range (n := m.toNat) (fun i σ H' => ∃ c' v4 pre, σ = [some (.int c'), some (.int m), some (.int l), some (.ref p), v4, none] ∧ i ≤ m.toNat ∧ pre.length = i ∧ pre ++ bigGo l (m.toNat - i) c' = bigGo l m.toNat c ∧ Same H H' ∧ Li H' p pre) ⟨c, none, [], rfl, Nat.zero_le _, rfl, rfl, same_new np, upd_same⟩ ?_ ?_⟩
    · rintro i σ H1 hi ⟨c', v4, pre, rfl, _, hp, he, hs, hL⟩
      refine ⟨_, rfl, .inl ⟨rfl, _, SqL.of hL⟩, _, rfl, .inl ⟨_, rfl, _, rfl, _, _, rfl, rfl, hl, _, _, _, rfl, rfl, hL, szl (by rw [List.length_map]; omega), ?_⟩⟩
      refine ⟨_, rfl, _, rfl, _, _, rfl, rfl, ⟨hl, by omega⟩, ?_⟩
      refine ⟨c' / l, _, pre ++ [c' % l], rfl, by omega, by rw [List.length_append, hp]; rfl, ?_, same_mut hs np, li_push⟩
      rw [← he, List.append_assoc, show m.toNat - i = (m.toNat - (i + 1)) + 1 by omega]
      rfl
    · rintro σ H1 ⟨c', v4, pre, rfl, _, hp, he, hs, hL⟩
      refine ⟨_, rfl, h1 p _ hs np ?_⟩
      rw [← he, Nat.sub_self]
      show Li _ _ (pre ++ [])
      rw [List.append_nil]
      exact hL
  · have k : ¬ 10 ^ 18 ≤ c := k
    have ed : draws c m.toNat l = mixGo l m.toNat 0 ((c * 48271 + 12345) % 2147483647) := if_neg k
    rw [ed] at h1
    refine ⟨_, rfl, _, _, rfl, rfl, .inr ⟨by decide, by decide⟩, _, _, rfl, rfl, .inl ⟨_, rfl, _, _, rfl, rfl, by show (0 : Int) < _; decide, ?_⟩⟩
    refine ⟨_, rfl, m, rfl, by omega, by omega, for_range (n := m.toNat) (fun i σ H' => ∃ x v4 pre, σ = [some (.int c), some (.int m), some (.int l), some (.ref p), v4, some (.int x)] ∧ i ≤ m.toNat ∧ pre.length = i ∧ pre ++ mixGo l (m.toNat - i) (0 + (i : Int)) x = mixGo l m.toNat 0 ((c * 48271 + 12345) % 2147483647) ∧ Same H H' ∧ Li H' p pre) ⟨_, none, [], rfl, Nat.zero_le _, rfl, rfl, same_new np, upd_same⟩ ?_ ?_⟩
    · rintro i σ H1 hi ⟨x, v4, pre, rfl, _, hp, he, hs, hL⟩
      refine ⟨_, rfl, _, _, rfl, rfl, .inr ⟨by decide, by decide⟩, _, rfl, _, _, rfl, rfl, .inl ⟨by decide, by decide⟩, _, _, rfl, rfl, .inl ⟨_, rfl, _, _, rfl, rfl, by show (0 : Int) < _; decide, ?_⟩⟩
      refine ⟨_, rfl, .inl ⟨rfl, _, SqL.of hL⟩, _, rfl, _, _, rfl, rfl, ⟨by decide, by decide⟩, _, rfl, _, _, rfl, rfl, hl, _, _, _, rfl, rfl, hL, szl (by rw [List.length_map]; omega), ?_⟩
      refine ⟨_, _, pre ++ [((x * 16807 + 7919 * (0 + (i : Int))) % 2147483647) / 64 % l], rfl, by omega, by rw [List.length_append, hp]; rfl, ?_, same_mut hs np, li_push⟩
      rw [← he, List.append_assoc, show m.toNat - i = (m.toNat - (i + 1)) + 1 by omega, show (0 + ((i + 1 : Nat) : Int)) = 0 + (i : Int) + 1 by omega]
      rfl
    · rintro σ H1 ⟨x, v4, pre, rfl, _, hp, he, hs, hL⟩
      refine ⟨_, rfl, h1 p _ hs np ?_⟩
      rw [← he, Nat.sub_self]
      show Li _ _ (pre ++ [])
      rw [List.append_nil]
      exact hL
def blk (c : Int) (m : Nat) : List Int := (draws c m 997).map (· % 256)
theorem blk_len (c : Int) (m : Nat) : (blk c m).length = m := by
  unfold blk
  rw [List.length_map, draws_len]
theorem blk_mem (c : Int) (m : Nat) : ∀ d ∈ blk c m, 0 ≤ d ∧ d < 256 := by
  intro d h
  obtain ⟨e, _, rfl⟩ := List.mem_map.mp h
  exact ⟨Int.emod_nonneg _ (by decide), Int.emod_lt_of_pos _ (by decide)⟩
def sp__law_block (T : Env K mg) : Sp := fun vs H Q E => ∃ c m : Int, vs = [.int c, .int m] ∧ 0 ≤ m ∧ m ≤ 100000 ∧ ∀ p H', Same H H' → H p = none → Li H' p (blk c m.toNat) → Q (.ref p) H'
theorem ok__law_block (T : Env K mg) : FnOk P w K mg base (L2.CX P w) 2 T.a__law_block T.d__law_block ["cell", "many"] (sp__law_block T) := by
  refine T.F__law_block.okX sc__law_block (fun vs H Q E h => by obtain ⟨_, _, rfl, _⟩ := h; rfl) (fun cdv A outer s H vs Q E hr h => ?_)
  obtain ⟨c, m, rfl, hm, hm2, h1⟩ := h
  have hu64 := hu64_of hr
  have G__law_draws := ok__law_draws (P := P) (w := w) (base := base) T
  refine ⟨_, (pss_one (ps_ret (pe_lc (own := [("number", 2)]) (by rfl) sc__law_block.nd (pi_list (pe_call G__law_draws (hr.mono (by decide)) rfl T.g__law_draws T.F__law_draws.kp T.b__law_draws .nil passL (pa_cons (pv 0) (pa_cons (pv 1) (pa_cons pe_int pa_nil))))) (blkOk_by (own := [("number", 2)]) (N := ["cell", "many", "number"]) (sc := defScope s__law_block) (by decide +kernel)) (fun _ _ _ _ _ => (pg_name (i := 2) sc__law_block.nd rfl (Or.inl rfl))) (fun _ _ _ _ _ => pts_nil) (fun _ _ _ _ _ => (pe_op op_mod (pe_callTy call_int1 (by rfl) T.z_int (by decide +kernel) (pa_cons (pv 2) pa_nil)) pe_int))))), ?_⟩
  refine ⟨_, rfl, _, rfl, c, m, 997, rfl, hm, hm2, by decide, by decide, fun p H1 s1 np hL => ?_⟩
  have hlen := draws_len c m.toNat 997
  refine ⟨p, rfl, ⟨_, SqL.of hL⟩, fun D hD => lc_list (K := K) (a := p) (xs := (draws c m.toNat 997).map V.int) (fun i H' => Same H1 H' ∧ Li H' D ((draws c m.toNat 997).take i |>.map (· % 256))) ⟨same_new hD, upd_same⟩ (fun i H' _ h => SqL.of (h.1 _ _ hL)) ?_ ?_⟩
  · rintro i x H' hx ⟨hs, hl⟩
    obtain ⟨n, hn, rfl⟩ := mem_int hx
    have hi : i < (draws c m.toNat 997).length := (List.getElem?_eq_some_iff.mp hn).1
    refine ⟨rfl, yes_if ?_⟩
    refine ⟨_, rfl, .inl ⟨_, rfl, _, _, rfl, rfl, by show (0 : Int) < _; decide, ?_⟩⟩
    refine ⟨_, hl, szl (by rw [List.length_map, List.length_map, List.length_take]; omega), same_mut hs hD, ?_⟩
    rw [take_succ hn, List.map_append]
    exact li_push
  · rintro H' ⟨hs, hl⟩
    rw [List.length_map, List.take_length] at hl
    exact h1 D H' (s1.trans hs) (s1.free hD) hl

--PART /work/steering/wip/parts/lawvar.lean
def sp__law_varint (T : Env K mg) : Sp := fun vs H Q E => ∃ n : Int, vs = [.int n] ∧ 0 ≤ n ∧ n < NB ∧ ∀ p H', Same H H' → H p = none → H' p = some (.lst ((vint n).map V.int)) → Q (.ref p) H'
theorem ok__law_varint (T : Env K mg) : FnOk P w K mg base (L2.CX P w) 1 T.a__law_varint T.d__law_varint ["number"] (sp__law_varint T) := by
  refine T.F__law_varint.okX sc__law_varint (fun vs H Q E h => by obtain ⟨n, rfl, _⟩ := h; rfl) (fun cdv A outer s H vs Q E hr h => ?_)
  obtain ⟨n, rfl, hn, hb, h1⟩ := h
  refine ⟨_, (pss_cons (ps_set (i := 1) sc__law_varint.nd rfl (Or.inl rfl) (pe_lst pa_nil))
      (pss_cons (ps_while (passes_of rfl) (pt_cmpR op_gt (pv 0) pe_int (nomark _)) (pss_cons (ps_expr (pe_bm PySem.F.plainAttrs_list PySem.F.slot_list_append PySem.F.type_list_append mt_append (pv 1) (pa_cons (pe_op op_add (pe_op op_mod (pe_callTy call_int1 (by rfl) T.z_int (by decide +kernel) (pa_cons (pv 0) pa_nil)) pe_int) pe_int) pa_nil)))
      (pss_one (ps_set (i := 0) sc__law_varint.nd rfl (Or.inl rfl) (pe_op op_fdiv (pv 0) pe_int)))))
      (pss_cons (ps_expr (pe_bm PySem.F.plainAttrs_list PySem.F.slot_list_append PySem.F.type_list_append mt_append (pv 1) (pa_cons (pv 0) pa_nil)))
      (pss_one (ps_ret (pv 1)))))), ?_⟩
  refine ⟨Nat.zero_le _, fun p np => ?_⟩
  refine ⟨fun m σ H' => ∃ (k : Int) (pre : List Int), m = k.toNat ∧ σ = [some (.int k), some (.ref p)] ∧ 0 ≤ k ∧ pre ++ vint k = vint n ∧ Same H H' ∧ H' p = some (.lst (pre.map V.int)), ⟨_, n, [], rfl, rfl, hn, rfl, same_new np, upd_same⟩, ?_⟩
  rintro m σ H' ⟨k, pre, rfl, rfl, hk, hp, hs, hl⟩
  have hlen : pre.length + (vint k).length ≤ 100 := by
    rw [← List.length_append, hp]
    exact vint_len100 hb
  have hpos := vint_pos k
  refine ⟨_, rfl, _, _, rfl, rfl, _, rfl, iteD (fun c => ?_) (fun c => ?_)⟩
  · refine ⟨fun σ' H' => _, fun _ _ h => h, ?_⟩
    refine ⟨_, rfl, .inl ⟨rfl, _, SqL.of hl⟩, _, rfl, .inl ⟨_, rfl, _, _, rfl, rfl, by show (0 : Int) < _; decide, _, _, rfl, rfl, _, _, _, rfl, rfl, hl, by rw [List.length_map]; exact small1000 (by omega), ?_⟩⟩
    refine ⟨_, rfl, _, _, rfl, rfl, ⟨by decide, by decide⟩, ?_⟩
    refine ⟨(k / 128).toNat, by omega, k / 128, pre ++ [k % 128 + 128], rfl, rfl, by omega, ?_, same_mut hs np, ?_⟩
    · rw [List.append_assoc, ← hp, vint_ge (n := k) (by omega)]
      rfl
    · rw [upd_same, List.map_append]
      rfl
  · refine ⟨_, rfl, .inl ⟨rfl, _, SqL.of hl⟩, _, rfl, _, _, _, rfl, rfl, hl, by rw [List.length_map]; exact small1000 (by omega), ?_⟩
    refine ⟨_, rfl, ?_⟩
    refine h1 p _ (same_mut hs np) np ?_
    rw [upd_same, ← hp, vint_lt (n := k) (by omega), List.map_append]
    rfl

--PART /work/steering/wip/parts/lawnumber.lean
def sp__law_number (T : Env K mg) : Sp := fun vs H Q E => ∃ c : Int, vs = [.int c] ∧ 0 ≤ c ∧ ∀ H', Same H H' → Q (.int (lawNum c)) H'
theorem ok__law_number (T : Env K mg) : FnOk P w K mg base (L2.CX P w) 1 T.a__law_number T.d__law_number ["cell"] (sp__law_number T) := by
  refine T.F__law_number.okX sc__law_number (fun vs H Q E h => by obtain ⟨n, rfl, _⟩ := h; rfl) (fun cdv A outer s H vs Q E hr h => ?_)
  obtain ⟨c, rfl, hc, h1⟩ := h
  refine ⟨_, (pss_cons (ps_if (pt_cmpR op_lt (pv 0) (pe_op op_pow pe_int pe_int) (nomark _)) (pss_one (ps_ret (pe_ix ix_list (pe_lst (pa_cons pe_int (pa_cons pe_int (pa_cons pe_int (pa_cons pe_int (pa_cons pe_int (pa_cons pe_int (pa_cons pe_int (pa_cons pe_int (pa_cons (pv 0) pa_nil)))))))))) (pe_op op_mod (pe_callTy call_int1 (by rfl) T.z_int (by decide +kernel) (pa_cons (pv 0) pa_nil)) pe_int) (fun _ _ => rfl)))) pss_nil)
      (pss_one (ps_ret (pe_op op_mod (pe_callTy call_int1 (by rfl) T.z_int (by decide +kernel) (pa_cons (pv 0) pa_nil)) (pe_op op_pow pe_int pe_int))))), ?_⟩
  refine ⟨_, rfl, _, _, rfl, rfl, ⟨by decide, by decide, by decide⟩, _, _, rfl, rfl, _, rfl, iteD (fun k => ?_) (fun k => ?_)⟩
  · have k : c < 10 ^ 18 := k
    refine ⟨_, rfl, (by show 9 ≤ sizeLine; decide), fun p np => ?_⟩
    refine ⟨_, rfl, .inl ⟨_, rfl, _, _, rfl, rfl, by show (0 : Int) < _; decide, p, _, _, .int (lawNum c), rfl, rfl, SqL.of upd_same, at_of (j := (c % 9).toNat) (by omega) ?_, h1 _ (same_new np)⟩⟩
    unfold lawNum
    rw [if_pos k]
    obtain ⟨j, hj, e⟩ : ∃ j : Nat, j < 9 ∧ (c % 9).toNat = j := ⟨_, by omega, rfl⟩
    rw [e]
    match j, hj with
    | 0, _ | 1, _ | 2, _ | 3, _ | 4, _ | 5, _ | 6, _ | 7, _ | 8, _ => simp
  · have k : ¬ c < 10 ^ 18 := k
    refine ⟨_, rfl, .inl ⟨_, rfl, _, _, rfl, rfl, ⟨by decide, by decide, by decide⟩, _, _, rfl, rfl, by show (0 : Int) < _; decide, ?_⟩⟩
    have e : lawNum c = c % 10 ^ 60 := if_neg k
    have := h1 H (Same.refl H)
    rw [e] at this
    exact this

--PART /work/steering/wip/parts/encnum.lean
def sp_encode_number (T : Env K mg) : Sp := fun vs H Q E => ∃ n : Int, vs = [.int n] ∧ n < NB ∧ (0 ≤ n → ∀ p H', Same H H' → H p = none → H' p = some (.lst ((vint n).map V.int)) → Q (.ref p) H') ∧ (n < 0 → E (.ref T.c_BadArgument) none H)
theorem ok_encode_number (T : Env K mg) : FnOk P w K mg base (L2.CX P w) 1 T.a_encode_number T.d_encode_number ["number"] (sp_encode_number T) := by
  refine T.F_encode_number.okX sc_encode_number (fun vs H Q E h => by obtain ⟨n, rfl, _⟩ := h; rfl) (fun cdv A outer s H vs Q E hr h => ?_)
  obtain ⟨n, rfl, hb, h1, h2⟩ := h
  refine ⟨_, (pss_cons (ps_if (pt_cmpR op_lt (pv 0) pe_int (nomark _)) (pss_one (ps_raise rfl (takes_of rfl rfl rfl rfl) (pmk_own PySem.F.excBase_ValueError T.e_BadArgument.xP T.e_BadArgument.gC T.e_BadArgument.kC (raises_own T.e_BadArgument.bP T.e_BadArgument.tP) (by exact rfl)))) pss_nil)
      (pss_cons (ps_set (i := 1) sc_encode_number.nd rfl (Or.inl rfl) (pe_lst pa_nil))
      (pss_cons (ps_while (passes_of rfl) (pt_cmpR op_ge (pv 0) pe_int (nomark _)) (pss_cons (ps_expr (pe_bm PySem.F.plainAttrs_list PySem.F.slot_list_append PySem.F.type_list_append mt_append (pv 1) (pa_cons (pe_op op_add (pe_op op_mod (pv 0) pe_int) pe_int) pa_nil)))
      (pss_one (ps_set (i := 0) sc_encode_number.nd rfl (Or.inl rfl) (pe_op op_fdiv (pv 0) pe_int)))))
      (pss_cons (ps_expr (pe_bm PySem.F.plainAttrs_list PySem.F.slot_list_append PySem.F.type_list_append mt_append (pv 1) (pa_cons (pv 0) pa_nil)))
      (pss_one (ps_ret (pv 1))))))), ?_⟩
  refine ⟨_, rfl, _, _, rfl, rfl, _, rfl, ite2 (fun c => h2 (of_decide_eq_true c)) (fun c => ?_)⟩
  have hn : 0 ≤ n := by
    have := of_decide_eq_false (eq_false_of_ne_true c)
    omega
  refine ⟨Nat.zero_le _, fun p np => ?_⟩
  refine ⟨fun m σ H' => ∃ (k : Int) (pre : List Int), m = k.toNat ∧ σ = [some (.int k), some (.ref p)] ∧ 0 ≤ k ∧ pre ++ vint k = vint n ∧ Same H H' ∧ H' p = some (.lst (pre.map V.int)), ⟨_, n, [], rfl, rfl, hn, rfl, same_new np, upd_same⟩, ?_⟩
  rintro m σ H' ⟨k, pre, rfl, rfl, hk, hp, hs, hl⟩
  have hlen : pre.length + (vint k).length ≤ 100 := by
    rw [← List.length_append, hp]
    exact vint_len100 hb
  have hpos := vint_pos k
  refine ⟨_, rfl, _, _, rfl, rfl, _, rfl, ite2 (fun c => ?_) (fun c => ?_)⟩
  · have c := of_decide_eq_true c
    refine ⟨fun σ' H' => _, fun _ _ h => h, ?_⟩
    refine ⟨_, rfl, .inl ⟨rfl, _, SqL.of hl⟩, _, rfl, _, _, rfl, rfl, by show (0 : Int) < _; decide, _, _, rfl, rfl, _, _, _, rfl, rfl, hl, by rw [List.length_map]; exact small1000 (by omega), ?_⟩
    refine ⟨_, rfl, _, _, rfl, rfl, ⟨by decide, by decide⟩, ?_⟩
    refine ⟨(k / 128).toNat, by omega, k / 128, pre ++ [k % 128 + 128], rfl, rfl, by omega, ?_, same_mut hs np, ?_⟩
    · rw [List.append_assoc, ← hp, vint_ge (n := k) (by omega)]
      rfl
    · rw [upd_same, List.map_append]
      rfl
  · have c := of_decide_eq_false (eq_false_of_ne_true c)
    refine ⟨_, rfl, .inl ⟨rfl, _, SqL.of hl⟩, _, rfl, _, _, _, rfl, rfl, hl, by rw [List.length_map]; exact small1000 (by omega), ?_⟩
    refine ⟨_, rfl, ?_⟩
    refine h1 hn p _ (same_mut hs np) np ?_
    rw [upd_same, ← hp, vint_lt (n := k) (by omega), List.map_append]
    rfl

--PART /work/steering/wip/parts/decode.lean
/-! ### reading numbers -/
def scan : List Int → Option (List Int × List Int)
  | [] => none
  | b :: r => if 128 ≤ b then (scan r).map (fun p => (b :: p.1, p.2)) else some ([b], r)
def value : List Int → Int
  | [] => 0
  | b :: r => b % 128 + 128 * value r
def dec (ns : List Int) (i : Int) : Option (Int × Int) :=
  if i < 0 then none else match scan (ns.drop i.toNat) with
    | none => none
    | some (d, _) => if d.getLast? = some 0 ∧ 1 < d.length then none else some (value d, i + d.length)
theorem scan_pre : ∀ (pre l : List Int), (∀ b ∈ pre, 128 ≤ b) → scan (pre ++ l) = (scan l).map (fun p => (pre ++ p.1, p.2))
  | [], l, _ => by
    show scan l = _
    cases scan l with
    | none => rfl
    | some p => rfl
  | b :: pre, l, h => by
    show (if 128 ≤ b then (scan (pre ++ l)).map (fun p => (b :: p.1, p.2)) else _) = _
    rw [if_pos (h b (by simp)), scan_pre pre l fun x hx => h x (by simp [hx])]
    cases scan l with
    | none => rfl
    | some p => rfl
theorem scan_none {l : List Int} (h : ∀ b ∈ l, 128 ≤ b) : scan l = none := by
  have := scan_pre l [] h
  rw [List.append_nil] at this
  rw [this]
  rfl
theorem scan_stop (b : Int) (r : List Int) (h : ¬ 128 ≤ b) : scan (b :: r) = some ([b], r) := by
  show (if 128 ≤ b then _ else _) = _
  rw [if_neg h]
theorem scan_some : ∀ (l d t : List Int), scan l = some (d, t) → l = d ++ t ∧ d ≠ []
  | [], _, _, h => by cases h
  | b :: r, d, t, h => by
    by_cases c : 128 ≤ b
    · have e : scan (b :: r) = (scan r).map (fun p => (b :: p.1, p.2)) := by
        show (if 128 ≤ b then _ else _) = _
        rw [if_pos c]
      rw [e] at h
      cases k : scan r with
      | none => rw [k] at h; cases h
      | some p =>
        rw [k] at h
        have h2 : (b :: p.1, p.2) = (d, t) := Option.some.inj h
        have h3 := scan_some r p.1 p.2 k
        cases h2
        exact ⟨by rw [h3.1]; rfl, by simp⟩
    · rw [scan_stop b r c] at h
      have h2 : ([b], r) = (d, t) := Option.some.inj h
      cases h2
      exact ⟨rfl, by simp⟩
theorem value_snoc : ∀ (l : List Int) (b : Int), value (l ++ [b]) = value l + b % 128 * 128 ^ l.length
  | [], b => by
    show b % 128 + 128 * 0 = 0 + b % 128 * 128 ^ 0
    omega
  | a :: l, b => by
    show a % 128 + 128 * value (l ++ [b]) = a % 128 + 128 * value l + b % 128 * 128 ^ (l.length + 1)
    rw [value_snoc l b, Int.pow_succ, Int.mul_add, ← Int.mul_assoc, ← Int.mul_assoc, Int.mul_comm 128 (b % 128), Int.mul_assoc (b % 128) 128, Int.mul_assoc (b % 128), Int.mul_comm 128 (128 ^ l.length)]
    omega
theorem scan_vint : ∀ (k : Nat) (n : Int) (t : List Int), n.toNat < k → 0 ≤ n → scan (vint n ++ t) = some (vint n, t) ∧ value (vint n) = n ∧ (∀ b ∈ (vint n).dropLast, 128 ≤ b) ∧ ((vint n).getLast? = some 0 → (vint n).length = 1) ∧ (∃ l, vint n = (vint n).dropLast ++ [l] ∧ 0 ≤ l ∧ l < 128)
  | 0, n, t, h, _ => by omega
  | k + 1, n, t, h, h0 => by
    by_cases c : n < 128
    · rw [vint_lt c]
      exact ⟨scan_stop n t (by omega), by show n % 128 + 128 * 0 = n; omega, by simp, by simp, n, rfl, h0, c⟩
    · obtain ⟨i1, i2, i3, i4, l, i5, i6, i7⟩ := scan_vint k (n / 128) t (by omega) (by omega)
      rw [vint_ge c]
      have ne := vint_ne (n / 128)
      have e1 : ((n % 128 + 128) :: vint (n / 128)).dropLast = (n % 128 + 128) :: (vint (n / 128)).dropLast := by
        cases q : vint (n / 128) with
        | nil => exact absurd q ne
        | cons x r => rfl
      refine ⟨?_, ?_, ?_, ?_, l, ?_, i6, i7⟩
      · show (if 128 ≤ n % 128 + 128 then (scan (vint (n / 128) ++ t)).map _ else _) = _
        rw [if_pos (by omega), i1]
        rfl
      · show (n % 128 + 128) % 128 + 128 * value (vint (n / 128)) = n
        rw [i2]
        omega
      · rw [e1]
        intro b hb
        rcases List.mem_cons.mp hb with e | e
        · omega
        · exact i3 b e
      · intro hz
        rw [List.getLast?_cons_of_ne_nil ne] at hz
        have h1 := i4 hz
        by_cases c2 : n / 128 < 128
        · rw [vint_lt c2] at hz
          have : n / 128 = 0 := by simpa using hz
          omega
        · rw [vint_ge c2] at h1
          have := vint_pos (n / 128 / 128)
          rw [List.length_cons] at h1
          omega
      · rw [e1]
        show _ = (n % 128 + 128) :: ((vint (n / 128)).dropLast ++ [l])
        rw [← i5]
theorem dec_vint (pre t : List Int) {n : Int} (h : 0 ≤ n) : dec (pre ++ (vint n ++ t)) (pre.length : Nat) = some (n, ((pre.length : Nat) : Int) + ((vint n).length : Nat)) := by
  obtain ⟨h1, h2, h3, h4, h5⟩ := scan_vint _ n t (Nat.lt_succ_self _) h
  unfold dec
  rw [if_neg (by omega), Int.toNat_natCast, List.drop_left' rfl, h1]
  show (if (vint n).getLast? = some 0 ∧ 1 < (vint n).length then none else some (value (vint n), _)) = _
  rw [if_neg (fun q => by have := h4 q.1; omega), h2]
theorem dec_cut (pre : List Int) {n : Int} (h : 0 ≤ n) : dec (pre ++ (vint n).dropLast) pre.length = none := by
  obtain ⟨h1, h2, h3, h4, h5⟩ := scan_vint _ n [] (Nat.lt_succ_self _) h
  unfold dec
  rw [if_neg (by omega), Int.toNat_natCast, List.drop_left' rfl, scan_none h3]
theorem dec_long (pre : List Int) {n l : Int} (h : 0 ≤ n) (hl : 0 ≤ l) : dec (pre ++ ((vint n).dropLast ++ [l + 128, 0])) pre.length = none := by
  obtain ⟨h1, h2, h3, h4, h5⟩ := scan_vint _ n [] (Nat.lt_succ_self _) h
  have e : scan ((vint n).dropLast ++ [l + 128, 0]) = some ((vint n).dropLast ++ [l + 128, 0], []) := by
    rw [show (vint n).dropLast ++ [l + 128, 0] = ((vint n).dropLast ++ [l + 128]) ++ [0] by simp, scan_pre _ [0] (fun b hb => by
      rcases List.mem_append.mp hb with e | e
      · exact h3 b e
      · have : b = l + 128 := by simpa using e
        omega)]
    rfl
  unfold dec
  rw [if_neg (by omega), Int.toNat_natCast, List.drop_left' rfl, e]
  show (if ((vint n).dropLast ++ [l + 128, 0]).getLast? = some 0 ∧ 1 < ((vint n).dropLast ++ [l + 128, 0]).length then none else some _) = _
  rw [if_pos ⟨by simp, by simp⟩]
theorem dec_out (ns : List Int) {i : Int} (h : (ns.length : Int) ≤ i) : dec ns i = none := by
  unfold dec
  rw [if_neg (by omega), List.drop_of_length_le (by omega)]
  rfl
theorem dec_neg (ns : List Int) {i : Int} (h : i < 0) : dec ns i = none := if_pos h
def sp__check_index (T : Env K mg) : Sp := fun vs H Q E => ∃ (a : Addr) (ns : List Int) (i : Int), vs = [.ref a, .int i] ∧ SqL K H a (ns.map V.int) ∧ (0 ≤ i → i < ns.length → Q .non H) ∧ (i < 0 ∨ (ns.length : Int) ≤ i → E (.ref T.c_BadBytes) none H)
theorem ok__check_index (T : Env K mg) : FnOk P w K mg base (L2.CX P w) 1 T.a__check_index T.d__check_index ["block", "at"] (sp__check_index T) := by
  refine T.F__check_index.okX sc__check_index (fun vs H Q E h => by obtain ⟨_, _, _, rfl, _⟩ := h; rfl) (fun cdv A outer s H vs Q E hr h => ?_)
  obtain ⟨a, ns, i, rfl, hS, h1, h2⟩ := h
  refine ⟨_, (pss_one (ps_if (PW.pt (pw_or (pt_cmpR op_lt (pv 1) pe_int (nomark _)) (pw_or1 (pt_cmpR op_ge (pv 1) (pe_callB call_len (by rfl) T.z_len (by decide +kernel) (pa_cons (pv 0) pa_nil)) (nomark _))))) (pss_one (ps_raise rfl (takes_of rfl rfl rfl rfl) (pmk_own PySem.F.excBase_ValueError T.e_BadBytes.xP T.e_BadBytes.gC T.e_BadBytes.kC (raises_own T.e_BadBytes.bP T.e_BadBytes.tP) (by exact rfl)))) pss_nil)), ?_⟩
  refine ⟨_, rfl, _, _, rfl, rfl, _, rfl, iteD (fun c => iteT (h2 (.inl c))) (fun c => ?_)⟩
  refine ⟨_, rfl, _, rfl, _, _, rfl, .inl ⟨_, hS, rfl⟩, _, _, rfl, rfl, _, rfl, iteD (fun k => ?_) (fun k => ?_)⟩
  · rw [List.length_map] at k
    exact h2 (.inr k)
  · rw [List.length_map] at k
    exact h1 (by omega) (by omega)
def sp__last_index (T : Env K mg) : Sp := fun vs H Q E => ∃ (a : Addr) (ns : List Int) (i : Int), vs = [.ref a, .int i] ∧ SqL K H a (ns.map V.int) ∧
  (∀ d t, 0 ≤ i → scan (ns.drop i.toNat) = some (d, t) → Q (.int (i + d.length - 1)) H) ∧ (i < 0 ∨ scan (ns.drop i.toNat) = none → E (.ref T.c_BadBytes) none H)
theorem ok__last_index (T : Env K mg) : FnOk P w K mg base (L2.CX P w) 2 T.a__last_index T.d__last_index ["block", "at"] (sp__last_index T) := by
  refine T.F__last_index.okX sc__last_index (fun vs H Q E h => by obtain ⟨_, _, _, rfl, _⟩ := h; rfl) (fun cdv A outer s H vs Q E hr h => ?_)
  obtain ⟨a, ns, i, rfl, hS, h1, h2⟩ := h
  have hu64 := hu64_of hr
  have G__check_index := ok__check_index (P := P) (w := w) (base := base) T
  refine ⟨_, (pss_cons (ps_expr (pe_call G__check_index (hr.mono (by decide)) rfl T.g__check_index T.F__check_index.kp T.b__check_index .nil (passes_call (takes_of rfl rfl rfl rfl) (fun _ _ _ _ x => x)) (pa_cons (pv 0) (pa_cons (pv 1) pa_nil))))
      (pss_cons (ps_while (passes_of rfl) (pt_cmpR op_ge (pe_ix ix_list (pv 0) (pv 1) (fun _ _ => rfl)) pe_int (nomark _)) (pss_cons (ps_aug (i := 1) sc__last_index.nd rfl (Or.inl rfl) pe_int ip_add)
      (pss_one (ps_expr (pe_call G__check_index (hr.mono (by decide)) rfl T.g__check_index T.F__check_index.kp T.b__check_index .nil (passes_call (takes_of rfl rfl rfl rfl) (fun _ _ _ _ x => x)) (pa_cons (pv 0) (pa_cons (pv 1) pa_nil)))))))
      (pss_one (ps_ret (pv 1))))), ?_⟩
  refine ⟨_, rfl, _, rfl, a, ns, i, rfl, hS, fun hi0 hi1 => ?_, fun c => ?_⟩
  · obtain ⟨b0, r0, e0⟩ : ∃ b r, ns.drop i.toNat = b :: r := by
      cases q : ns.drop i.toNat with
      | nil =>
        have := congrArg List.length q
        rw [List.length_drop] at this
        simp at this
        omega
      | cons b r => exact ⟨b, r, rfl⟩
    refine ⟨fun m σ H' => ∃ (pre r : List Int) (b : Int), m = r.length ∧ σ = [some (.ref a), some (.int (i + pre.length))] ∧ H' = H ∧ ns.drop i.toNat = pre ++ b :: r ∧ ∀ x ∈ pre, 128 ≤ x, ⟨_, [], r0, b0, rfl, (by show _ = [some (V.ref a), some (V.int (i + 0))]; rw [Int.add_zero]; rfl), rfl, e0, by simp⟩, ?_⟩
    rintro m σ H' ⟨pre, r, b, rfl, rfl, rfl, he, hp⟩
    have hix : ns[i.toNat + pre.length]? = some b := by
      rw [← List.getElem?_drop, he, List.getElem?_append_right (Nat.le_refl _), Nat.sub_self]
      rfl
    have hlen : ns.length = i.toNat + pre.length + 1 + r.length := by
      have := congrArg List.length he
      rw [List.length_drop] at this
      simp at this
      omega
    refine ⟨_, rfl, _, rfl, a, _, _, _, rfl, rfl, hS, at_of (j := i.toNat + pre.length) (v := .int b) (by omega) (by rw [List.getElem?_map, hix]; rfl), _, _, rfl, rfl, _, rfl, iteD (fun c => ?_) (fun c => ?_)⟩
    · refine ⟨fun σ' H' => _, fun _ _ h => h, ?_⟩
      refine ⟨_, rfl, _, _, rfl, rfl, ?_⟩
      refine ⟨_, rfl, _, rfl, a, ns, i + pre.length + 1, rfl, hS, fun _ hj => ?_, fun hj => ?_⟩
      · obtain ⟨b1, r1, rfl⟩ : ∃ b1 r1, r = b1 :: r1 := by
          cases r with
          | nil => simp at hlen; omega
          | cons b1 r1 => exact ⟨b1, r1, rfl⟩
        refine ⟨r1.length, by simp, pre ++ [b], r1, b1, rfl, ?_, rfl, by rw [he]; simp, fun x hx => ?_⟩
        · rw [List.length_append]
          show [some (V.ref a), some (V.int (i + pre.length + 1))] = [some (V.ref a), some (V.int (i + ((pre.length + 1 : Nat) : Int)))]
          rw [show i + (pre.length : Int) + 1 = i + ((pre.length + 1 : Nat) : Int) by omega]
        · rcases List.mem_append.mp hx with e | e
          · exact hp x e
          · have : x = b := by simpa using e
            omega
      · have er : r = [] := by
          cases r with
          | nil => rfl
          | cons b1 r1 => simp at hlen; omega
        subst er
        refine h2 (.inr ?_)
        rw [he]
        refine scan_none fun x hx => ?_
        rcases List.mem_append.mp hx with e | e
        · exact hp x e
        · have : x = b := by simpa using e
          omega
    · have hs : scan (ns.drop i.toNat) = some (pre ++ [b], r) := by
        rw [he, scan_pre pre _ hp, scan_stop b r c]
        rfl
      have := h1 _ _ hi0 hs
      rw [List.length_append, show i + ((pre.length + [b].length : Nat) : Int) - 1 = i + pre.length by simp; omega] at this
      exact ⟨_, rfl, this⟩
  · refine h2 ?_
    rcases c with c | c
    · exact .inl c
    · refine .inr ?_
      rw [List.drop_of_length_le (by omega)]
      rfl
def sp_decode_number (T : Env K mg) : Sp := fun vs H Q E => ∃ (a : Addr) (ns : List Int) (i : Int), vs = [.ref a, .int i] ∧ SqL K H a (ns.map V.int) ∧
  (∀ v e, dec ns i = some (v, e) → ∀ p H', Same H H' → H p = none → H' p = some (.tup [.int v, .int e]) → Q (.ref p) H') ∧ (dec ns i = none → ∀ H', Same H H' → E (.ref T.c_BadBytes) none H')
theorem ok_decode_number (T : Env K mg) : FnOk P w K mg base (L2.CX P w) 3 T.a_decode_number T.d_decode_number ["block", "at"] (sp_decode_number T) := by
  refine T.F_decode_number.ok sc_decode_number (fun vs H Q E h => by obtain ⟨_, _, _, rfl, _⟩ := h; rfl) (fun cdv A outer s H vs Q E hr h => ?_)
  obtain ⟨a, ns, i, rfl, hS, h1, h2⟩ := h
  have hu64 := hu64_of hr
  have G__last_index := ok__last_index (P := P) (w := w) (base := base) T
  refine ⟨_, (pss_cons (ps_set (i := 2) sc_decode_number.nd rfl (Or.inl rfl) (pe_call G__last_index (hr.mono (by decide)) rfl T.g__last_index T.F__last_index.kp T.b__last_index .nil (passes_call (takes_of rfl rfl rfl rfl) (fun _ _ _ _ x => x)) (pa_cons (pv 0) (pa_cons (pv 1) pa_nil))))
      (pss_cons (ps_if (PW.pt (pw_and (pt_cmpR op_eq (pe_ix ix_list (pv 0) (pv 2) (fun _ _ => rfl)) pe_int (nomark _)) (pw_and1 (pt_cmpR op_gt (pv 2) (pv 1) (nomark _))))) (pss_one (ps_raise rfl (takes_of rfl rfl rfl rfl) (pmk_own PySem.F.excBase_ValueError T.e_BadBytes.xP T.e_BadBytes.gC T.e_BadBytes.kC (raises_own T.e_BadBytes.bP T.e_BadBytes.tP) (by exact rfl)))) pss_nil)
      (pss_cons (ps_set (i := 3) sc_decode_number.nd rfl (Or.inl rfl) pe_int)
      (pss_cons (ps_set (i := 4) sc_decode_number.nd rfl (Or.inl rfl) pe_int)
      (pss_cons (ps_for (passes_of rfl) rfl (pi_list (pe_slice sl_list (pv 0) (po_some (pv 1)) (po_some (pe_op op_add (pv 2) pe_int)))) (pg_name (i := 5) sc_decode_number.nd rfl (Or.inl rfl)) (pss_cons (ps_set (i := 3) sc_decode_number.nd rfl (Or.inl rfl) (pe_op op_add (pv 3) (pe_op op_mul (pe_op op_mod (pv 5) pe_int) (pv 4))))
      (pss_one (ps_set (i := 4) sc_decode_number.nd rfl (Or.inl rfl) (pe_op op_mul (pv 4) pe_int)))))
      (pss_one (ps_ret (pe_tup (pa_cons (pv 3) (pa_cons (pe_op op_add (pv 2) pe_int) pa_nil)))))))))), ?_⟩
  refine ⟨_, rfl, _, rfl, a, ns, i, rfl, hS, fun d t hi hs => ?_, fun c => ?_⟩
  · obtain ⟨he, hne⟩ := scan_some _ _ _ hs
    obtain ⟨d0, l, rfl⟩ : ∃ d0 l, d = d0 ++ [l] := ⟨d.dropLast, d.getLast hne, (List.dropLast_concat_getLast hne).symm⟩
    have hix : ns[i.toNat + d0.length]? = some l := by
      rw [← List.getElem?_drop, he, List.append_assoc, List.getElem?_append_right (Nat.le_refl _), Nat.sub_self]
      rfl
    have hlen : d0.length + 1 + t.length = ns.length - i.toNat := by
      have := congrArg List.length he
      rw [List.length_drop] at this
      simp at this
      omega
    have ed : dec ns i = if (d0 ++ [l]).getLast? = some 0 ∧ 1 < (d0 ++ [l]).length then none else some (value (d0 ++ [l]), i + (d0 ++ [l]).length) := by
      unfold dec
      rw [if_neg (by omega), hs]
    rw [List.length_append, show i + ((d0.length + [l].length : Nat) : Int) - 1 = i + d0.length by simp; omega]
    refine ⟨_, rfl, _, rfl, a, _, _, _, rfl, rfl, hS, at_of (j := i.toNat + d0.length) (v := .int l) (by omega) (by rw [List.getElem?_map, hix]; rfl), rfl, _, rfl, ?_⟩
    by_cases hg : l = 0 ∧ 0 < d0.length
    · refine ifT (decide_eq_true (by rw [hg.1])) ⟨_, rfl, _, rfl, _, _, rfl, rfl, _, rfl, ifT (decide_eq_true (by omega)) (h2 ?_ _ (Same.refl H))⟩
      rw [ed, if_pos ⟨by simp [hg.1], by simp; omega⟩]
    · suffices rest : _ by
        refine iteD (fun c => ?_) (fun c => ifF rfl rest)
        have c : l = 0 := V.int.inj c
        exact ⟨_, rfl, _, rfl, _, _, rfl, rfl, _, rfl, ifF (decide_eq_false (by omega)) rest⟩
      have ev : dec ns i = some (value (d0 ++ [l]), i + (d0.length + 1 : Nat)) := by
        rw [ed, if_neg (fun q => hg ⟨by simpa using q.1, by have := q.2; simp at this; omega⟩)]
        simp
      refine ⟨_, rfl, _, rfl, _, rfl, _, rfl, _, _, rfl, rfl, _, rfl, a, _, rfl, hS, fun p np => ?_⟩
      have ec : cutV (ns.map V.int) (some i) (some (i + d0.length + 1)) = (d0 ++ [l]).map V.int := by
        rw [show i = ((i.toNat : Nat) : Int) by omega, show ((i.toNat : Nat) : Int) + d0.length + 1 = ((i.toNat + d0.length + 1 : Nat) : Int) by omega, cut_fromto, ← List.map_drop, he, ← List.map_take, List.take_left' (by simp; omega)]
      rw [ec]
      refine ⟨p, rfl, ⟨_, SqL.of upd_same⟩, for_list (K := K) (a := p) (xs := (d0 ++ [l]).map V.int) (fun k σ H' => ∃ v5, σ = [some (.ref a), some (.int i), some (.int (i + d0.length)), some (.int (value ((d0 ++ [l]).take k))), some (.int (128 ^ k)), v5] ∧ k ≤ (d0 ++ [l]).length ∧ H' = upd H p (.lst ((d0 ++ [l]).map V.int))) ⟨none, rfl, Nat.zero_le _, rfl⟩ (fun k σ H' _ ⟨_, _, _, e⟩ => by rw [e]; exact SqL.of upd_same) ?_ ?_⟩
      · rintro k y σ H' hk ⟨v5, rfl, hkl, rfl⟩
        obtain ⟨n, hn, rfl⟩ := mem_int hk
        have hkl2 : k < (d0 ++ [l]).length := (List.getElem?_eq_some_iff.mp hn).1
        refine ⟨_, rfl, _, rfl, _, _, rfl, rfl, by show (0 : Int) < _; decide, _, rfl, _, _, rfl, rfl, .inl ⟨by omega, by omega⟩, _, _, rfl, rfl, ?_⟩
        refine ⟨_, rfl, _, _, rfl, rfl, .inr ⟨by decide, by decide⟩, ?_⟩
        refine ⟨some (.int n), ?_, hkl2, rfl⟩
        rw [take_succ hn, value_snoc, List.length_take, Nat.min_eq_left (by omega), Int.pow_succ]
        rfl
      · rintro σ H' ⟨v5, rfl, _, rfl⟩
        rw [List.length_map, List.take_length]
        refine ⟨_, rfl, _, rfl, _, _, rfl, rfl, (by show 2 ≤ sizeLine; decide), fun q nq => ?_⟩
        refine h1 _ _ ev q _ ((same_new np).trans (same_new nq)) ((same_new np).free nq) ?_
        rw [upd_same]
        show some (HO.tup [V.int (value (d0 ++ [l])), V.int (i + d0.length + 1)]) = _
        rw [show i + (d0.length : Int) + 1 = i + (d0.length + 1 : Nat) by omega]
  · refine h2 ?_ _ (Same.refl H)
    rcases c with c | c
    · exact dec_neg ns c
    · unfold dec
      split
      · rfl
      · rw [c]
/-! pairs of ints as data -/
def dPair (a b : Int) : PyData := .tuple [.int a, .int b]
theorem dp_pair {H : Hp} {p : Addr} {a b : Int} (h : SqT K H p [.int a, .int b]) : Dp K H (.ref p) (dPair a b) := .tup h (.cons (.int _) (.cons (.int _) .nil))
theorem shaped_pair (a b : Int) : SeqAt.shaped (dPair a b) = true := by
  unfold SeqAt.shaped dPair
  simp [PyData.canLay0, PyData.canLayAll0, PyData.depth, PyData.depthAll]
theorem eqv_pair (a b c d : Int) : PyData.eqv (dPair a b) (dPair c d) = decide (a = c ∧ b = d) := by
  show ((a == c) && ((b == d) && true)) = _
  by_cases h : a = c <;> by_cases h2 : b = d <;> simp [h, h2]

--PART /work/steering/wip/parts/values.lean
/-! ### signed numbers, flags, values -/
def sgn (n : Int) : Int := if n < 0 then -2 * n - 1 else 2 * n
def unsgn (c : Int) : Int := if c % 2 = 1 then -(c / 2) - 1 else c / 2
theorem unsgn_sgn (n : Int) : unsgn (sgn n) = n := by
  unfold unsgn sgn
  split <;> split <;> omega
theorem sgn_nn (n : Int) : 0 ≤ sgn n := by
  unfold sgn
  split <;> omega
/-- numbers whose signed code is short enough for a list -/
def SB : Int := 128 ^ 99
theorem sgn_NB {n : Int} (h : -SB ≤ n) (h2 : n ≤ SB) : sgn n < NB := by
  have e : NB = 128 * SB := by decide +kernel
  have e2 : 0 < SB := by decide +kernel
  unfold sgn
  split <;> omega
def vV : Option Int → V
  | none => .non
  | some n => .int n
def encv : Option Int → List Int
  | none => [0]
  | some n => 1 :: vint (sgn n)
def SBo : Option Int → Prop
  | none => True
  | some n => -SB ≤ n ∧ n ≤ SB
theorem encv_len {o : Option Int} (h : SBo o) : (encv o).length ≤ 101 := by
  cases o with
  | none => decide
  | some n =>
    have := vint_len100 (sgn_NB h.1 h.2)
    show (vint (sgn n)).length + 1 ≤ _
    omega
theorem encv_mem {o : Option Int} (h : SBo o) : ∀ b ∈ encv o, 0 ≤ b ∧ b < 256 := by
  cases o with
  | none =>
    intro b hb
    have : b = 0 := by simpa [encv] using hb
    omega
  | some n =>
    intro b hb
    rcases List.mem_cons.mp hb with e | e
    · omega
    · exact vint_byte_NB (sgn_NB h.1 h.2) (sgn_nn n) b e
def decf (ns : List Int) (i : Int) : Option (Bool × Int) :=
  if i < 0 then none else match ns[i.toNat]? with
    | none => none
    | some b => if b > 1 then none else some (decide (b = 1), i + 1)
def decs (ns : List Int) (i : Int) : Option (Int × Int) := (dec ns i).map fun p => (unsgn p.1, p.2)
def decv (ns : List Int) (i : Int) : Option (Option Int × Int) :=
  match decf ns i with
  | none => none
  | some (true, e) => (decs ns e).map fun p => (some p.1, p.2)
  | some (false, e) => some (none, e)
def sp_encode_signed (T : Env K mg) : Sp := fun vs H Q E => ∃ n : Int, vs = [.int n] ∧ -SB ≤ n ∧ n ≤ SB ∧ ∀ p H', Same H H' → H p = none → Li H' p (vint (sgn n)) → Q (.ref p) H'
theorem ok_encode_signed (T : Env K mg) : FnOk P w K mg base (L2.CX P w) 2 T.a_encode_signed T.d_encode_signed ["number"] (sp_encode_signed T) := by
  refine T.F_encode_signed.okX sc_encode_signed (fun vs H Q E h => by obtain ⟨n, rfl, _⟩ := h; rfl) (fun cdv A outer s H vs Q E hr h => ?_)
  obtain ⟨n, rfl, hb, hb2, h1⟩ := h
  have hu64 := hu64_of hr
  have G_encode_number := ok_encode_number (P := P) (w := w) (base := base) T
  have hN := sgn_NB hb hb2
  have hn := sgn_nn n
  refine ⟨_, (pss_cons (ps_if (pt_cmpR op_lt (pv 0) pe_int (nomark _)) (pss_one (ps_ret (pe_call G_encode_number (hr.mono (by decide)) rfl T.g_encode_number T.F_encode_number.kp T.b_encode_number .nil passL (pa_cons (pe_op op_sub (pe_op op_mul (pe_un un_neg pe_int) (pv 0)) pe_int) pa_nil)))) pss_nil)
      (pss_one (ps_ret (pe_call G_encode_number (hr.mono (by decide)) rfl T.g_encode_number T.F_encode_number.kp T.b_encode_number .nil passL (pa_cons (pe_op op_mul pe_int (pv 0)) pa_nil))))), ?_⟩
  refine ⟨_, rfl, _, _, rfl, rfl, _, rfl, iteD (fun c => ?_) (fun c => ?_)⟩
  · have e : sgn n = -2 * n - 1 := if_pos c
    rw [e] at hN hn h1
    exact ⟨_, rfl, _, rfl, _, _, rfl, rfl, .inl ⟨by decide, by decide⟩, _, _, rfl, rfl, -2 * n - 1, rfl, hN, fun _ p H' s np hl => h1 p H' s np hl, fun c => absurd c (by omega)⟩
  · have e : sgn n = 2 * n := if_neg c
    rw [e] at hN hn h1
    exact ⟨_, rfl, _, _, rfl, rfl, .inl ⟨by decide, by decide⟩, 2 * n, rfl, hN, fun _ p H' s np hl => h1 p H' s np hl, fun c => absurd c (by omega)⟩
def sp_decode_signed (T : Env K mg) : Sp := fun vs H Q E => ∃ (a : Addr) (ns : List Int) (i : Int), vs = [.ref a, .int i] ∧ SqL K H a (ns.map V.int) ∧
  (∀ v e, decs ns i = some (v, e) → ∀ p H', Same H H' → H p = none → H' p = some (.tup [.int v, .int e]) → Q (.ref p) H') ∧ (decs ns i = none → ∀ H', Same H H' → E (.ref T.c_BadBytes) none H')
theorem ok_decode_signed (T : Env K mg) : FnOk P w K mg base (L2.CX P w) 4 T.a_decode_signed T.d_decode_signed ["block", "at"] (sp_decode_signed T) := by
  refine T.F_decode_signed.ok sc_decode_signed (fun vs H Q E h => by obtain ⟨_, _, _, rfl, _⟩ := h; rfl) (fun cdv A outer s H vs Q E hr h => ?_)
  obtain ⟨a, ns, i, rfl, hS, h1, h2⟩ := h
  have hu64 := hu64_of hr
  have G_decode_number := ok_decode_number (P := P) (w := w) (base := base) T
  refine ⟨_, (pss_cons (ps_asg (pe_call G_decode_number (hr.mono (by decide)) rfl T.g_decode_number T.F_decode_number.kp T.b2_decode_number T.v2_decode_number (passes_call (takes_of rfl rfl rfl rfl) (fun _ _ _ _ x => x)) (pa_cons (pv 0) (pa_cons (pv 1) pa_nil))) (pg_tup rfl (pgs_cons (pg_name (i := 2) sc_decode_signed.nd rfl (Or.inl rfl)) (pgs_cons (pg_name (i := 3) sc_decode_signed.nd rfl (Or.inl rfl)) pgs_nil))))
      (pss_cons (ps_if (pt_cmpR op_eq (pe_op op_mod (pv 2) pe_int) pe_int (nomark _)) (pss_one (ps_ret (pe_tup (pa_cons (pe_op op_sub (pe_un un_neg (pe_op op_fdiv (pv 2) pe_int)) pe_int) (pa_cons (pv 3) pa_nil))))) pss_nil)
      (pss_one (ps_ret (pe_tup (pa_cons (pe_op op_fdiv (pv 2) pe_int) (pa_cons (pv 3) pa_nil))))))), ?_⟩
  refine ⟨_, rfl, _, rfl, a, ns, i, rfl, hS, fun v e c p H1 s1 np hp => ?_, fun c H1 s1 => h2 (by unfold decs; rw [c]; rfl) H1 s1⟩
  have ed : decs ns i = some (unsgn v, e) := by unfold decs; rw [c]; rfl
  refine ⟨p, _, rfl, SqT.of hp, rfl, _, _, rfl, _, _, rfl, rfl, ?_⟩
  refine ⟨_, rfl, _, _, rfl, rfl, by show (0 : Int) < _; decide, rfl, _, rfl, iteD (fun k => ?_) (fun k => ?_)⟩
  · have k : v % 2 = 1 := V.int.inj k
    have eu : unsgn v = -(v / 2) - 1 := if_pos k
    refine ⟨_, rfl, _, _, rfl, rfl, ⟨by decide, by decide⟩, _, rfl, _, _, rfl, rfl, _, rfl, (by show 2 ≤ sizeLine; decide), fun q nq => ?_⟩
    refine h1 _ _ ed q _ (s1.trans (same_new nq)) (s1.free nq) ?_
    rw [upd_same, eu]
  · have k : ¬ v % 2 = 1 := fun q => k (congrArg V.int q)
    have eu : unsgn v = v / 2 := if_neg k
    refine ⟨_, rfl, _, _, rfl, rfl, ⟨by decide, by decide⟩, _, rfl, (by show 2 ≤ sizeLine; decide), fun q nq => ?_⟩
    refine h1 _ _ ed q _ (s1.trans (same_new nq)) (s1.free nq) ?_
    rw [upd_same, eu]
def sp_encode_flag (T : Env K mg) : Sp := fun vs H Q E => ∃ b : Bool, vs = [.bl b] ∧ ∀ p H', Same H H' → H p = none → Li H' p [if b then 1 else 0] → Q (.ref p) H'
theorem ok_encode_flag (T : Env K mg) : FnOk P w K mg base (L2.CX P w) 1 T.a_encode_flag T.d_encode_flag ["flag"] (sp_encode_flag T) := by
  refine T.F_encode_flag.okX sc_encode_flag (fun vs H Q E h => by obtain ⟨n, rfl, _⟩ := h; rfl) (fun cdv A outer s H vs Q E hr h => ?_)
  obtain ⟨b, rfl, h1⟩ := h
  refine ⟨_, (pss_cons (ps_if (pt_val (pv 0)) (pss_one (ps_ret (pe_lst (pa_cons pe_int pa_nil)))) pss_nil)
      (pss_one (ps_ret (pe_lst (pa_cons pe_int pa_nil))))), ?_⟩
  refine ⟨_, rfl, _, rfl, ?_⟩
  cases b with
  | true => exact iteT ⟨(by show 1 ≤ sizeLine; decide), fun p np => h1 p _ (same_new np) np upd_same⟩
  | false => exact ifF rfl ⟨(by show 1 ≤ sizeLine; decide), fun p np => h1 p _ (same_new np) np upd_same⟩
def sp_decode_flag (T : Env K mg) : Sp := fun vs H Q E => ∃ (a : Addr) (ns : List Int) (i : Int), vs = [.ref a, .int i] ∧ SqL K H a (ns.map V.int) ∧
  (∀ v e, decf ns i = some (v, e) → ∀ p H', Same H H' → H p = none → H' p = some (.tup [.bl v, .int e]) → Q (.ref p) H') ∧ (decf ns i = none → ∀ H', Same H H' → E (.ref T.c_BadBytes) none H')
theorem ok_decode_flag (T : Env K mg) : FnOk P w K mg base (L2.CX P w) 2 T.a_decode_flag T.d_decode_flag ["block", "at"] (sp_decode_flag T) := by
  refine T.F_decode_flag.ok sc_decode_flag (fun vs H Q E h => by obtain ⟨_, _, _, rfl, _⟩ := h; rfl) (fun cdv A outer s H vs Q E hr h => ?_)
  obtain ⟨a, ns, i, rfl, hS, h1, h2⟩ := h
  have hu64 := hu64_of hr
  have G__check_index := ok__check_index (P := P) (w := w) (base := base) T
  refine ⟨_, (pss_cons (ps_expr (pe_call G__check_index (hr.mono (by decide)) rfl T.g__check_index T.F__check_index.kp T.b__check_index .nil (passes_call (takes_of rfl rfl rfl rfl) (fun _ _ _ _ x => x)) (pa_cons (pv 0) (pa_cons (pv 1) pa_nil))))
      (pss_cons (ps_if (pt_cmpR op_gt (pe_ix ix_list (pv 0) (pv 1) (fun _ _ => rfl)) pe_int (nomark _)) (pss_one (ps_raise rfl (takes_of rfl rfl rfl rfl) (pmk_own PySem.F.excBase_ValueError T.e_BadBytes.xP T.e_BadBytes.gC T.e_BadBytes.kC (raises_own T.e_BadBytes.bP T.e_BadBytes.tP) (by exact rfl)))) pss_nil)
      (pss_one (ps_ret (pe_tup (pa_cons (pe_cmpR op_eq (pe_ix ix_list (pv 0) (pv 1) (fun _ _ => rfl)) pe_int (nomark _)) (pa_cons (pe_op op_add (pv 1) pe_int) pa_nil))))))), ?_⟩
  refine ⟨_, rfl, _, rfl, a, ns, i, rfl, hS, fun hi hi2 => ?_, fun c => h2 ?_ H (Same.refl H)⟩
  · obtain ⟨b, hb⟩ : ∃ b, ns[i.toNat]? = some b := ⟨_, List.getElem?_eq_getElem (by omega)⟩
    have ed : decf ns i = if b > 1 then none else some (decide (b = 1), i + 1) := by
      unfold decf
      rw [if_neg (by omega), hb]
    have ai : atI (ns.map V.int) i = some (.int b) := at_of (j := i.toNat) (by omega) (by rw [List.getElem?_map, hb]; rfl)
    refine ⟨_, rfl, _, rfl, a, _, _, _, rfl, rfl, hS, ai, _, _, rfl, rfl, _, rfl, iteD (fun c => ?_) (fun c => ?_)⟩
    · exact h2 (by rw [ed, if_pos c]) H (Same.refl H)
    · rw [if_neg (show ¬ b > 1 from c)] at ed
      refine ⟨_, rfl, _, rfl, a, _, _, _, rfl, rfl, hS, ai, rfl, _, rfl, _, _, rfl, rfl, (by show 2 ≤ sizeLine; decide), fun q nq => ?_⟩
      refine h1 _ _ ed q _ (same_new nq) nq ?_
      rw [upd_same]
      have : decide (V.int b = V.int 1) = decide (b = 1) := by
        by_cases k : b = 1
        · subst k; rfl
        · rw [decide_eq_false k, decide_eq_false fun q => k (V.int.inj q)]
      rw [this]
  · unfold decf
    rcases c with c | c
    · rw [if_pos c]
    · split
      · rfl
      · rw [List.getElem?_eq_none (by omega)]
def sp_encode_value (T : Env K mg) : Sp := fun vs H Q E => ∃ o : Option Int, vs = [vV o] ∧ SBo o ∧ ∀ p H', Same H H' → H p = none → Li H' p (encv o) → Q (.ref p) H'
theorem ok_encode_value (T : Env K mg) : FnOk P w K mg base (L2.CX P w) 3 T.a_encode_value T.d_encode_value ["value"] (sp_encode_value T) := by
  refine T.F_encode_value.okX sc_encode_value (fun vs H Q E h => by obtain ⟨n, rfl, _⟩ := h; rfl) (fun cdv A outer s H vs Q E hr h => ?_)
  obtain ⟨o, rfl, hb, h1⟩ := h
  have hu64 := hu64_of hr
  have G_encode_signed := ok_encode_signed (P := P) (w := w) (base := base) T
  refine ⟨_, (pss_cons (ps_if (pt_cmpR op_isN (pv 0) pe_non (nomark _)) (pss_one (ps_ret (pe_lst (pa_cons pe_int pa_nil)))) pss_nil)
      (pss_one (ps_ret (pe_op op_cat (pe_lst (pa_cons pe_int pa_nil)) (pe_call G_encode_signed (hr.mono (by decide)) rfl T.g_encode_signed T.F_encode_signed.kp T.b_encode_signed .nil passL (pa_cons (pv 0) pa_nil)))))), ?_⟩
  refine ⟨_, rfl, rfl, _, rfl, ?_⟩
  cases o with
  | none => exact iteT ⟨(by show 1 ≤ sizeLine; decide), fun p np => h1 p _ (same_new np) np upd_same⟩
  | some n =>
    refine ifF rfl ⟨(by show 1 ≤ sizeLine; decide), fun p np => ?_⟩
    have hl := vint_len100 (sgn_NB hb.1 hb.2)
    refine ⟨_, rfl, n, rfl, hb.1, hb.2, fun q H1 s1 nq hq => ⟨p, q, [.int 1], _, rfl, rfl, s1 _ _ upd_same, hq, szle (by rw [List.length_map]; show 1 + _ ≤ _; omega), fun r nr => ?_⟩⟩
    exact h1 r _ (((same_new np).trans s1).trans (same_new nr)) (((same_new np).trans s1).free nr) upd_same
def sp_decode_value (T : Env K mg) : Sp := fun vs H Q E => ∃ (a : Addr) (ns : List Int) (i : Int), vs = [.ref a, .int i] ∧ SqL K H a (ns.map V.int) ∧
  (∀ v e, decv ns i = some (v, e) → ∀ p H', Same H H' → H p = none → H' p = some (.tup [vV v, .int e]) → Q (.ref p) H') ∧ (decv ns i = none → ∀ H', Same H H' → E (.ref T.c_BadBytes) none H')
theorem ok_decode_value (T : Env K mg) : FnOk P w K mg base (L2.CX P w) 5 T.a_decode_value T.d_decode_value ["block", "at"] (sp_decode_value T) := by
  refine T.F_decode_value.ok sc_decode_value (fun vs H Q E h => by obtain ⟨_, _, _, rfl, _⟩ := h; rfl) (fun cdv A outer s H vs Q E hr h => ?_)
  obtain ⟨a, ns, i, rfl, hS, h1, h2⟩ := h
  have hu64 := hu64_of hr
  have G_decode_flag := ok_decode_flag (P := P) (w := w) (base := base) T
  have G_decode_signed := ok_decode_signed (P := P) (w := w) (base := base) T
  refine ⟨_, (pss_cons (ps_asg (pe_call G_decode_flag (hr.mono (by decide)) rfl T.g_decode_flag T.F_decode_flag.kp T.b2_decode_flag T.v2_decode_flag (passes_call (takes_of rfl rfl rfl rfl) (fun _ _ _ _ x => x)) (pa_cons (pv 0) (pa_cons (pv 1) pa_nil))) (pg_tup rfl (pgs_cons (pg_name (i := 2) sc_decode_value.nd rfl (Or.inl rfl)) (pgs_cons (pg_name (i := 3) sc_decode_value.nd rfl (Or.inl rfl)) pgs_nil))))
      (pss_cons (ps_if (pt_val (pv 2)) (pss_one (ps_ret (pe_call G_decode_signed (hr.mono (by decide)) rfl T.g_decode_signed T.F_decode_signed.kp T.b2_decode_signed T.v2_decode_signed (passes_call (takes_of rfl rfl rfl rfl) (fun _ _ _ _ x => x)) (pa_cons (pv 0) (pa_cons (pv 3) pa_nil))))) pss_nil)
      (pss_one (ps_ret (pe_tup (pa_cons pe_non (pa_cons (pv 3) pa_nil))))))), ?_⟩
  refine ⟨_, rfl, _, rfl, a, ns, i, rfl, hS, fun v e c p H1 s1 np hp => ?_, fun c H1 s1 => h2 (by unfold decv; rw [c]) H1 s1⟩
  refine ⟨p, _, rfl, SqT.of hp, rfl, _, _, rfl, _, _, rfl, rfl, ?_⟩
  refine ⟨_, rfl, _, rfl, ?_⟩
  cases v with
  | true =>
    refine iteT ?_
    have ed : decv ns i = (decs ns e).map fun p => (some p.1, p.2) := by unfold decv; rw [c]
    refine ⟨_, rfl, _, rfl, a, ns, e, rfl, s1.seq hS, fun v2 e2 c2 q H2 s2 nq hq => ?_, fun c2 H2 s2 => h2 (by rw [ed, c2]; rfl) H2 (s1.trans s2)⟩
    exact h1 (some v2) e2 (by rw [ed, c2]; rfl) q H2 (s1.trans s2) (s1.free nq) hq
  | false =>
    refine ifF rfl ?_
    refine ⟨_, rfl, (by show 2 ≤ sizeLine; decide), fun q nq => ?_⟩
    exact h1 none e (by unfold decv; rw [c]) q _ (s1.trans (same_new nq)) (s1.free nq) upd_same

--PART /work/steering/wip/parts/k03.lean
def sp__law_signed (T : Env K mg) : Sp := fun vs H Q E => ∃ n : Int, vs = [.int n] ∧ -SB ≤ n ∧ n ≤ SB ∧ ∀ p H', Same H H' → H p = none → Li H' p (vint (sgn n)) → Q (.ref p) H'
theorem ok__law_signed (T : Env K mg) : FnOk P w K mg base (L2.CX P w) 2 T.a__law_signed T.d__law_signed ["number"] (sp__law_signed T) := by
  refine T.F__law_signed.okX sc__law_signed (fun vs H Q E h => by obtain ⟨n, rfl, _⟩ := h; rfl) (fun cdv A outer s H vs Q E hr h => ?_)
  obtain ⟨n, rfl, hb, hb2, h1⟩ := h
  have hu64 := hu64_of hr
  have G__law_varint := ok__law_varint (P := P) (w := w) (base := base) T
  have hN := sgn_NB hb hb2
  have hn := sgn_nn n
  refine ⟨_, (pss_cons (ps_if (pt_cmpR op_lt (pv 0) pe_int (nomark _)) (pss_one (ps_ret (pe_call G__law_varint (hr.mono (by decide)) rfl T.g__law_varint T.F__law_varint.kp T.b__law_varint .nil passL (pa_cons (pe_op op_sub (pe_op op_mul (pe_un un_neg pe_int) (pv 0)) pe_int) pa_nil)))) pss_nil)
      (pss_one (ps_ret (pe_call G__law_varint (hr.mono (by decide)) rfl T.g__law_varint T.F__law_varint.kp T.b__law_varint .nil passL (pa_cons (pe_op op_mul pe_int (pv 0)) pa_nil))))), ?_⟩
  refine ⟨_, rfl, _, _, rfl, rfl, _, rfl, iteD (fun c => ?_) (fun c => ?_)⟩
  · have e : sgn n = -2 * n - 1 := if_pos c
    rw [e] at hN hn h1
    exact ⟨_, rfl, _, rfl, _, _, rfl, rfl, .inl ⟨by decide, by decide⟩, _, _, rfl, rfl, -2 * n - 1, rfl, hn, hN, fun p H' s np hl => h1 p H' s np hl⟩
  · have e : sgn n = 2 * n := if_neg c
    rw [e] at hN hn h1
    exact ⟨_, rfl, _, _, rfl, rfl, .inl ⟨by decide, by decide⟩, 2 * n, rfl, hn, hN, fun p H' s np hl => h1 p H' s np hl⟩
def badOf (w : Int) (ns : List Int) (i : Int) : Prop := if w = 0 then decf ns i = none else if w = 1 then decs ns i = none else decv ns i = none
def sp__law_refused (T : Env K mg) : Sp := fun vs H Q E => ∃ (w : Int) (a : Addr) (ns : List Int) (i : Int), vs = [.int w, .ref a, .int i] ∧ SqL K H a (ns.map V.int) ∧ badOf w ns i ∧ ∀ H', Same H H' → Q (.bl true) H'
theorem ok__law_refused (T : Env K mg) : FnOk P w K mg base (L2.CX P w) 7 T.a__law_refused T.d__law_refused ["which", "block", "at"] (sp__law_refused T) := by
  refine T.F__law_refused.okX sc__law_refused (fun vs H Q E h => by obtain ⟨_, _, _, _, rfl, _⟩ := h; rfl) (fun cdv A outer s H vs Q E hr h => ?_)
  obtain ⟨w', a, ns, i, rfl, hS, hd, h1⟩ := h
  have hu64 := hu64_of hr
  have G_decode_flag := ok_decode_flag (P := P) (w := w) (base := base) T
  have G_decode_signed := ok_decode_signed (P := P) (w := w) (base := base) T
  have G_decode_value := ok_decode_value (P := P) (w := w) (base := base) T
  refine ⟨_, (pss_cons (ps_try_only rfl rfl ⟨rfl, by decide, .inl T.e_BadBytes.gC⟩ takes0 (fun W pn xe tk po => (pss_one (ps_if (pt_cmpR op_eq (pv 0) pe_int (nomark _)) (pss_one (ps_expr (pe_callSD G_decode_flag (hr.mono (by decide)) rfl T.g_decode_flag T.F_decode_flag.kp T.b2_decode_flag T.v2_decode_flag (fun σ => passAt tk σ) (pa_cons (pv 1) (pa_cons (pv 2) pa_nil))))) (pss_one (ps_if (pt_cmpR op_eq (pv 0) pe_int (nomark _)) (pss_one (ps_expr (pe_callSD G_decode_signed (hr.mono (by decide)) rfl T.g_decode_signed T.F_decode_signed.kp T.b2_decode_signed T.v2_decode_signed (fun σ => passAt tk σ) (pa_cons (pv 1) (pa_cons (pv 2) pa_nil))))) (pss_one (ps_expr (pe_callSD G_decode_value (hr.mono (by decide)) rfl T.g_decode_value T.F_decode_value.kp T.b2_decode_value T.v2_decode_value (fun σ => passAt tk σ) (pa_cons (pv 1) (pa_cons (pv 2) pa_nil)))))))))) (fun a oe cls d pn hz hf => (pss_one (ps_ret pe_bl))))
      (pss_one (ps_ret pe_bl))), ?_⟩
  refine ⟨_, rfl, rfl, _, rfl, iteD (fun k => ?_) (fun k => ?_)⟩
  · have k : w' = 0 := V.int.inj k
    rw [badOf, if_pos k] at hd
    exact ⟨_, rfl, _, rfl, a, ns, i, rfl, hS, fun v e c => (by rw [hd] at c; cases c), fun _ H1 s1 => ⟨true, T.u_BadBytes_BadBytes, fun _ x _ => h1 _ s1, fun q => Bool.noConfusion q⟩⟩
  · have k : ¬ w' = 0 := fun q => k (congrArg V.int q)
    rw [badOf, if_neg k] at hd
    refine ⟨_, rfl, rfl, _, rfl, iteD (fun k2 => ?_) (fun k2 => ?_)⟩
    · have k2 : w' = 1 := V.int.inj k2
      rw [if_pos k2] at hd
      exact ⟨_, rfl, _, rfl, a, ns, i, rfl, hS, fun v e c => (by rw [hd] at c; cases c), fun _ H1 s1 => ⟨true, T.u_BadBytes_BadBytes, fun _ x _ => h1 _ s1, fun q => Bool.noConfusion q⟩⟩
    · have k2 : ¬ w' = 1 := fun q => k2 (congrArg V.int q)
      rw [if_neg k2] at hd
      exact ⟨_, rfl, _, rfl, a, ns, i, rfl, hS, fun v e c => (by rw [hd] at c; cases c), fun _ H1 s1 => ⟨true, T.u_BadBytes_BadBytes, fun _ x _ => h1 _ s1, fun q => Bool.noConfusion q⟩⟩
inductive Thing : V → Prop where
  | non : Thing .non
  | int (n : Int) : Thing (.int n)
  | bl (b : Bool) : Thing (.bl b)
def sp__law_back (T : Env K mg) : Sp := fun vs H Q E => ∃ (a : Addr) (x : V) (e : Int), vs = [.ref a, x, .int e] ∧ Thing x ∧ H a = some (.tup [x, .int e]) ∧ Q (.bl true) H
theorem ok__law_back (T : Env K mg) : FnOk P w K mg base (L2.CX P w) 2 T.a__law_back T.d__law_back ["actual", "thing", "end"] (sp__law_back T) := by
  refine T.F__law_back.okX sc__law_back (fun vs H Q E h => by obtain ⟨_, _, _, rfl, _⟩ := h; rfl) (fun cdv A outer s H vs Q E hr h => ?_)
  obtain ⟨a, x, e, rfl, hx, ha, h1⟩ := h
  have hu64 := hu64_of hr
  have G__law_is_int := ok__law_is_int (P := P) (w := w) (base := base) T
  refine ⟨_, (pss_cons (ps_if (PW.pt (pw_or (pt_not (pt_val (pe_callB call_isi (by rfl) T.z_isinstance (by decide +kernel) (pa_cons (pv 0) (pa_cons (pe_bltn (v := .ty "tuple") (by rfl) T.z_tuple (by decide +kernel) rfl) pa_nil))))) (pw_or (pt_cmpR op_ne (pe_callB call_len (by rfl) T.z_len (by decide +kernel) (pa_cons (pv 0) pa_nil)) pe_int (nomark _)) (pw_or (pt_not (pt_val (pe_call G__law_is_int (hr.mono (by decide)) rfl T.g__law_is_int T.F__law_is_int.kp T.b__law_is_int .nil passL (pa_cons (pe_ix ix_tup (pv 0) pe_int (fun _ _ => rfl)) pa_nil)))) (pw_or1 (pt_cmpR op_ne (pe_ix ix_tup (pv 0) pe_int (fun _ _ => rfl)) (pv 2) (nomark _))))))) (pss_one (ps_ret pe_bl)) pss_nil)
      (pss_cons (ps_if (pt_cmpR op_isN (pv 1) pe_non (nomark _)) (pss_one (ps_ret (pe_cmpR op_isN (pe_ix ix_tup (pv 0) pe_int (fun _ _ => rfl)) pe_non (nomark _)))) pss_nil)
      (pss_one (ps_ret (pe_and (pe_cmpR op_eq (pe_callB call_isi (by rfl) T.z_isinstance (by decide +kernel) (pa_cons (pe_ix ix_tup (pv 0) pe_int (fun _ _ => rfl)) (pa_cons (pe_bltn (v := .ty "bool") (by rfl) T.z_bool (by decide +kernel) rfl) pa_nil))) (pe_callB call_isi (by rfl) T.z_isinstance (by decide +kernel) (pa_cons (pv 1) (pa_cons (pe_bltn (v := .ty "bool") (by rfl) T.z_bool (by decide +kernel) rfl) pa_nil))) (nomark _)) (pe_and (pe_callB call_isi (by rfl) T.z_isinstance (by decide +kernel) (pa_cons (pe_ix ix_tup (pv 0) pe_int (fun _ _ => rfl)) (pa_cons (pe_bltn (v := .ty "int") (by rfl) T.z_int (by decide +kernel) rfl) pa_nil))) (pe_one (pe_cmpR op_eq (pe_ix ix_tup (pv 0) pe_int (fun _ _ => rfl)) (pv 1) (nomark _))))))))), ?_⟩
  refine ⟨_, rfl, _, _, _, _, _, rfl, .ty _, .base (.tup ha), kit_ty (b := "tuple") (r := true) (by decide +kernel), _, rfl, ifF rfl ?_⟩
  refine ⟨_, rfl, _, _, rfl, .inr ⟨_, SqT.of ha, rfl⟩, rfl, _, rfl, ifF rfl ?_⟩
  refine ⟨_, rfl, a, _, _, .int e, rfl, rfl, SqT.of ha, atI_nat (j := 1) rfl, e, rfl, _, rfl, ifF rfl ?_⟩
  refine ⟨_, rfl, a, _, _, .int e, rfl, rfl, SqT.of ha, atI_nat (j := 1) rfl, _, rfl, rfl, _, rfl, ifF (by simp) ?_⟩
  have a0 : atI [x, V.int e] 0 = some x := atI_nat (j := 0) rfl
  cases hx with
  | non => exact ⟨_, rfl, rfl, _, rfl, iteT ⟨_, rfl, a, _, _, _, rfl, rfl, SqT.of ha, a0, rfl, h1⟩⟩
  | int n =>
    refine ⟨_, rfl, rfl, _, rfl, ifF rfl ?_⟩
    refine ⟨_, rfl, a, _, _, _, rfl, rfl, SqT.of ha, a0, _, _, _, _, _, rfl, .ty _, .base (.int _), kit_ty (b := "bool") (r := false) (by decide +kernel), ?_⟩
    refine ⟨_, rfl, _, _, _, _, _, rfl, .ty _, .base (.int _), kit_ty (b := "bool") (r := false) (by decide +kernel), rfl, _, rfl, iteT ?_⟩
    refine ⟨_, rfl, a, _, _, _, rfl, rfl, SqT.of ha, a0, _, _, _, _, _, rfl, .ty _, .base (.int _), kit_ty (b := "int") (r := true) (by decide +kernel), _, rfl, iteT ?_⟩
    refine ⟨_, rfl, a, _, _, _, rfl, rfl, SqT.of ha, a0, _, rfl, rfl, ?_⟩
    rw [decide_eq_true rfl]
    exact h1
  | bl b =>
    refine ⟨_, rfl, rfl, _, rfl, ifF rfl ?_⟩
    refine ⟨_, rfl, a, _, _, _, rfl, rfl, SqT.of ha, a0, _, _, _, _, _, rfl, .ty _, .base (.bl _), kit_ty (b := "bool") (r := true) (by decide +kernel), ?_⟩
    refine ⟨_, rfl, _, _, _, _, _, rfl, .ty _, .base (.bl _), kit_ty (b := "bool") (r := true) (by decide +kernel), rfl, _, rfl, iteT ?_⟩
    refine ⟨_, rfl, a, _, _, _, rfl, rfl, SqT.of ha, a0, _, _, _, _, _, rfl, .ty _, .base (.bl _), kit_ty (b := "int") (r := true) (by decide +kernel), _, rfl, iteT ?_⟩
    refine ⟨_, rfl, a, _, _, _, rfl, rfl, SqT.of ha, a0, _, rfl, rfl, ?_⟩
    rw [decide_eq_true rfl]
    exact h1
theorem thing_v (o : Option Int) : Thing (vV o) := by
  cases o with
  | none => exact .non
  | some n => exact .int n
/-! what the codes give back -/
theorem decs_enc (pre t : List Int) (n : Int) : decs (pre ++ (vint (sgn n) ++ t)) (pre.length : Nat) = some (n, ((pre.length : Nat) : Int) + ((vint (sgn n)).length : Nat)) := by
  unfold decs
  rw [dec_vint pre t (sgn_nn n)]
  show some (unsgn (sgn n), _) = _
  rw [unsgn_sgn]
theorem decs_cut (pre : List Int) (n : Int) : decs (pre ++ (vint (sgn n)).dropLast) (pre.length : Nat) = none := by
  unfold decs
  rw [dec_cut pre (sgn_nn n)]
  rfl
theorem at_pre (pre t : List Int) (b : Int) : (pre ++ b :: t)[((pre.length : Nat) : Int).toNat]? = some b := by
  rw [Int.toNat_natCast, List.getElem?_append_right (Nat.le_refl _), Nat.sub_self]
  rfl
theorem decf_at (pre t : List Int) (b : Int) : decf (pre ++ b :: t) (pre.length : Nat) = if b > 1 then none else some (decide (b = 1), ((pre.length : Nat) : Int) + 1) := by
  unfold decf
  rw [if_neg (by omega), at_pre]
theorem decv_enc (pre t : List Int) (o : Option Int) : decv (pre ++ (encv o ++ t)) (pre.length : Nat) = some (o, ((pre.length : Nat) : Int) + ((encv o).length : Nat)) := by
  cases o with
  | none =>
    show decv (pre ++ 0 :: t) _ = _
    unfold decv
    rw [decf_at, if_neg (by decide)]
    rfl
  | some n =>
    show decv (pre ++ 1 :: (vint (sgn n) ++ t)) _ = _
    unfold decv
    rw [decf_at, if_neg (by decide)]
    show (decs (pre ++ 1 :: (vint (sgn n) ++ t)) (((pre.length : Nat) : Int) + 1)).map _ = _
    have := decs_enc (pre ++ [1]) t n
    rw [List.append_assoc, List.length_append] at this
    rw [show (((pre.length : Nat) : Int) + 1) = ((pre.length + [(1 : Int)].length : Nat) : Int) from rfl]
    show (decs (pre ++ ([1] ++ (vint (sgn n) ++ t))) _).map _ = _
    rw [this]
    show some (some n, _) = some (some n, _)
    simp [encv]
    omega
theorem decv_cut (pre : List Int) (n : Int) : decv (pre ++ (encv (some n)).dropLast) (pre.length : Nat) = none := by
  have ne := vint_ne (sgn n)
  have e : (encv (some n)).dropLast = 1 :: (vint (sgn n)).dropLast := by
    show (1 :: vint (sgn n)).dropLast = _
    cases q : vint (sgn n) with
    | nil => exact absurd q ne
    | cons x r => rfl
  rw [e]
  unfold decv
  rw [decf_at, if_neg (by decide)]
  show (decs (pre ++ ([1] ++ (vint (sgn n)).dropLast)) (((pre.length : Nat) : Int) + 1)).map _ = _
  have := decs_cut (pre ++ [1]) n
  rw [List.append_assoc, List.length_append] at this
  rw [show (((pre.length : Nat) : Int) + 1) = ((pre.length + [(1 : Int)].length : Nat) : Int) from rfl, this]
  rfl
theorem bad_out {ns : List Int} {i : Int} (w : Int) (h : i < 0 ∨ (ns.length : Int) ≤ i) : badOf w ns i := by
  have d : dec ns i = none := by
    rcases h with h | h
    · exact dec_neg ns h
    · exact dec_out ns h
  have f : decf ns i = none := by
    unfold decf
    rcases h with h | h
    · exact if_pos h
    · split
      · rfl
      · rw [List.getElem?_eq_none (by omega)]
  unfold badOf decs decv
  rw [d, f]
  split
  · rfl
  · split <;> rfl
theorem bad_big (pre t : List Int) {b : Int} (h : 1 < b) {w : Int} (hw : w ≠ 1) : badOf w (pre ++ b :: t) (pre.length : Nat) := by
  unfold badOf
  by_cases h0 : w = 0
  · rw [if_pos h0, decf_at, if_pos h]
  · rw [if_neg h0, if_neg hw]
    unfold decv
    rw [decf_at, if_pos h]
def spLaw (K : PySem.W.Frag) : Sp := fun vs H Q _ => ∃ (a : Addr) (ns : List Int), vs = [.ref a] ∧ SqL K H a (ns.map V.int) ∧ ns.length ≤ 63 ∧ ∀ H', Q (.bl true) H'
def sp_law (T : Env K mg) : Sp := spLaw K
theorem ok_law (T : Env K mg) : FnOk P w K mg base CX0 9 T.a_law T.d_law ["script"] (sp_law T) := by
  refine T.F_law.ok sc_law (fun vs H Q E h => by obtain ⟨_, _, rfl, _⟩ := h; rfl) (fun cdv A outer s H vs Q E hr h => ?_)
  obtain ⟨a, ns, rfl, hS, hlen, h1⟩ := h
  have hu64 := hu64_of hr
  have G__law_block := ok__law_block (P := P) (w := w) (base := base) T
  have G__law_number := ok__law_number (P := P) (w := w) (base := base) T
  have G__law_cell := ok__law_cell (P := P) (w := w) (base := base) T
  have G__law_signed := ok__law_signed (P := P) (w := w) (base := base) T
  have G_encode_signed := ok_encode_signed (P := P) (w := w) (base := base) T
  have G__law_back := ok__law_back (P := P) (w := w) (base := base) T
  have G_encode_value := ok_encode_value (P := P) (w := w) (base := base) T
  have G_encode_flag := ok_encode_flag (P := P) (w := w) (base := base) T
  have G__law_refused := ok__law_refused (P := P) (w := w) (base := base) T
  have G_decode_signed := ok_decode_signed (P := P) (w := w) (base := base) T
  have G_decode_value := ok_decode_value (P := P) (w := w) (base := base) T
  have G_decode_flag := ok_decode_flag (P := P) (w := w) (base := base) T
  refine ⟨_, (pss_cons (ps_set (i := 1) sc_law.nd rfl (Or.inl rfl) (pe_call G__law_block (hr.mono (by decide)) rfl T.g__law_block T.F__law_block.kp T.b__law_block .nil passL (pa_cons (pe_call G__law_cell (hr.mono (by decide)) rfl T.g__law_cell T.F__law_cell.kp T.b__law_cell .nil passL (pa_cons (pv 0) (pa_cons pe_int pa_nil))) (pa_cons (pe_op op_mod (pe_callTy call_int1 (by rfl) T.z_int (by decide +kernel) (pa_cons (pe_call G__law_cell (hr.mono (by decide)) rfl T.g__law_cell T.F__law_cell.kp T.b__law_cell .nil passL (pa_cons (pv 0) (pa_cons pe_int pa_nil))) pa_nil)) pe_int) pa_nil))))
      (pss_cons (ps_set (i := 2) sc_law.nd rfl (Or.inl rfl) (pe_lst (pa_cons (pe_op op_mod (pe_callTy call_int1 (by rfl) T.z_int (by decide +kernel) (pa_cons (pe_call G__law_cell (hr.mono (by decide)) rfl T.g__law_cell T.F__law_cell.kp T.b__law_cell .nil passL (pa_cons (pv 0) (pa_cons pe_int pa_nil))) pa_nil)) pe_int) pa_nil)))
      (pss_cons (ps_set (i := 3) sc_law.nd rfl (Or.inl rfl) (pe_callB call_len (by rfl) T.z_len (by decide +kernel) (pa_cons (pv 1) pa_nil)))
      (pss_cons (ps_set (i := 4) sc_law.nd rfl (Or.inl rfl) (pe_call G__law_number (hr.mono (by decide)) rfl T.g__law_number T.F__law_number.kp T.b__law_number .nil passL (pa_cons (pe_call G__law_cell (hr.mono (by decide)) rfl T.g__law_cell T.F__law_cell.kp T.b__law_cell .nil passL (pa_cons (pv 0) (pa_cons pe_int pa_nil))) pa_nil)))
      (pss_cons (ps_for PassesOwn.never rfl (pi_list (pe_lst (pa_cons (pv 4) (pa_cons (pe_un un_neg (pv 4)) (pa_cons (pe_op op_sub (pe_un un_neg pe_int) (pv 4)) (pa_cons pe_non pa_nil)))))) (pg_name (i := 5) sc_law.nd rfl (Or.inl rfl)) (pss_cons (ps_set (i := 6) sc_law.nd rfl (Or.inl rfl) (pe_lst (pa_cons pe_int pa_nil)))
      (pss_cons (ps_if (pt_cmpR op_notN (pv 5) pe_non (nomark _)) (pss_cons (ps_set (i := 6) sc_law.nd rfl (Or.inl rfl) (pe_op op_cat (pe_lst (pa_cons pe_int pa_nil)) (pe_call G__law_signed (hr.mono (by decide)) rfl T.g__law_signed T.F__law_signed.kp T.b__law_signed .nil passL (pa_cons (pv 5) pa_nil))))
      (pss_cons (ps_if (pt_cmpR (op_neD hu64) (pe_call G_encode_signed (hr.mono (by decide)) rfl T.g_encode_signed T.F_encode_signed.kp T.b_encode_signed .nil passL (pa_cons (pv 5) pa_nil)) (pe_call G__law_signed (hr.mono (by decide)) rfl T.g__law_signed T.F__law_signed.kp T.b__law_signed .nil passL (pa_cons (pv 5) pa_nil)) (nomark _)) (pss_one (ps_ret pe_bl)) pss_nil)
      (pss_cons (ps_set (i := 7) sc_law.nd rfl (Or.inl rfl) (pe_op op_cat (pv 1) (pe_call G__law_signed (hr.mono (by decide)) rfl T.g__law_signed T.F__law_signed.kp T.b__law_signed .nil passL (pa_cons (pv 5) pa_nil))))
      (pss_cons (ps_if (pt_not (pt_val (pe_call G__law_back (hr.mono (by decide)) rfl T.g__law_back T.F__law_back.kp T.b__law_back .nil passL (pa_cons (pe_call G_decode_signed (hr.mono (by decide)) rfl T.g_decode_signed T.F_decode_signed.kp T.b2_decode_signed T.v2_decode_signed passL (pa_cons (pe_op op_cat (pv 7) (pv 2)) (pa_cons (pv 3) pa_nil))) (pa_cons (pv 5) (pa_cons (pe_callB call_len (by rfl) T.z_len (by decide +kernel) (pa_cons (pv 7) pa_nil)) pa_nil)))))) (pss_one (ps_ret pe_bl)) pss_nil)
      (pss_one (ps_if (PW.pt (pw_or (pt_not (pt_val (pe_call G__law_refused (hr.mono (by decide)) rfl T.g__law_refused T.F__law_refused.kp T.b__law_refused .nil passL (pa_cons pe_int (pa_cons (pe_slice sl_list (pv 7) po_none (po_some (pe_un un_neg pe_int))) (pa_cons (pv 3) pa_nil)))))) (pw_or1 (pt_not (pt_val (pe_call G__law_refused (hr.mono (by decide)) rfl T.g__law_refused T.F__law_refused.kp T.b__law_refused .nil passL (pa_cons pe_int (pa_cons (pe_op op_cat (pv 1) (pe_slice sl_list (pv 6) po_none (po_some (pe_un un_neg pe_int)))) (pa_cons (pv 3) pa_nil))))))))) (pss_one (ps_ret pe_bl)) pss_nil)))))) pss_nil)
      (pss_one (ps_if (PW.pt (pw_or (pt_cmpR (op_neD hu64) (pe_call G_encode_value (hr.mono (by decide)) rfl T.g_encode_value T.F_encode_value.kp T.b_encode_value .nil passL (pa_cons (pv 5) pa_nil)) (pv 6) (nomark _)) (pw_or1 (pt_not (pt_val (pe_call G__law_back (hr.mono (by decide)) rfl T.g__law_back T.F__law_back.kp T.b__law_back .nil passL (pa_cons (pe_call G_decode_value (hr.mono (by decide)) rfl T.g_decode_value T.F_decode_value.kp T.b2_decode_value T.v2_decode_value passL (pa_cons (pe_op op_cat (pe_op op_cat (pv 1) (pv 6)) (pv 2)) (pa_cons (pv 3) pa_nil))) (pa_cons (pv 5) (pa_cons (pe_op op_add (pv 3) (pe_callB call_len (by rfl) T.z_len (by decide +kernel) (pa_cons (pv 6) pa_nil))) pa_nil))))))))) (pss_one (ps_ret pe_bl)) pss_nil)))))
      (pss_cons (ps_set (i := 8) sc_law.nd rfl (Or.inl rfl) (pe_op op_add pe_int (pe_op op_mod (pe_callTy call_int1 (by rfl) T.z_int (by decide +kernel) (pa_cons (pe_call G__law_cell (hr.mono (by decide)) rfl T.g__law_cell T.F__law_cell.kp T.b__law_cell .nil passL (pa_cons (pv 0) (pa_cons pe_int pa_nil))) pa_nil)) pe_int)))
      (pss_cons (ps_for PassesOwn.never rfl (pi_list (pe_lst (pa_cons pe_bl (pa_cons pe_bl pa_nil)))) (pg_name (i := 9) sc_law.nd rfl (Or.inl rfl)) (pss_one (ps_if (PW.pt (pw_or (pt_cmpR (op_neD hu64) (pe_call G_encode_flag (hr.mono (by decide)) rfl T.g_encode_flag T.F_encode_flag.kp T.b_encode_flag .nil passL (pa_cons (pv 9) pa_nil)) (pe_lst (pa_cons (pe_callTy call_int1 (by rfl) T.z_int (by decide +kernel) (pa_cons (pv 9) pa_nil)) pa_nil)) (nomark _)) (pw_or1 (pt_not (pt_val (pe_call G__law_back (hr.mono (by decide)) rfl T.g__law_back T.F__law_back.kp T.b__law_back .nil passL (pa_cons (pe_call G_decode_flag (hr.mono (by decide)) rfl T.g_decode_flag T.F_decode_flag.kp T.b2_decode_flag T.v2_decode_flag passL (pa_cons (pe_op op_cat (pe_op op_cat (pv 1) (pe_lst (pa_cons (pe_callTy call_int1 (by rfl) T.z_int (by decide +kernel) (pa_cons (pv 9) pa_nil)) pa_nil))) (pv 2)) (pa_cons (pv 3) pa_nil))) (pa_cons (pv 9) (pa_cons (pe_op op_add (pv 3) pe_int) pa_nil))))))))) (pss_one (ps_ret pe_bl)) pss_nil)))
      (pss_cons (ps_for PassesOwn.never rfl (pi_list (pe_lst (pa_cons pe_int (pa_cons pe_int (pa_cons pe_int pa_nil))))) (pg_name (i := 10) sc_law.nd rfl (Or.inl rfl)) (pss_cons (ps_if (PW.pt (pw_or (pt_not (pt_val (pe_call G__law_refused (hr.mono (by decide)) rfl T.g__law_refused T.F__law_refused.kp T.b__law_refused .nil passL (pa_cons (pv 10) (pa_cons (pv 1) (pa_cons (pv 3) pa_nil)))))) (pw_or1 (pt_not (pt_val (pe_call G__law_refused (hr.mono (by decide)) rfl T.g__law_refused T.F__law_refused.kp T.b__law_refused .nil passL (pa_cons (pv 10) (pa_cons (pe_op op_cat (pv 1) (pv 2)) (pa_cons (pe_un un_neg pe_int) pa_nil))))))))) (pss_one (ps_ret pe_bl)) pss_nil)
      (pss_one (ps_if (PW.pt (pw_and (pt_cmpR op_ne (pv 10) pe_int (nomark _)) (pw_and1 (pt_not (pt_val (pe_call G__law_refused (hr.mono (by decide)) rfl T.g__law_refused T.F__law_refused.kp T.b__law_refused .nil passL (pa_cons (pv 10) (pa_cons (pe_op op_cat (pe_op op_cat (pv 1) (pe_lst (pa_cons (pv 8) pa_nil))) (pv 2)) (pa_cons (pv 3) pa_nil))))))))) (pss_one (ps_ret pe_bl)) pss_nil))))
      (pss_one (ps_ret pe_bl)))))))))), ?_⟩
  have c1 := cell_nn ns 1
  -- head
  refine ⟨_, rfl, a, ns, 0, rfl, hS, by decide, _, rfl, a, ns, 1, rfl, hS, by decide, .inl ⟨_, rfl, _, _, rfl, rfl, by show (0 : Int) < _; decide, _, cell ns 1 % 4, rfl, by omega, by omega, fun ph H1 s1 nh hh => ?_⟩⟩
  have hl := blk_len (cell ns 0) (cell ns 1 % 4).toNat
  generalize blk (cell ns 0) (cell ns 1 % 4).toNat = Hd at hh hl
  have hl3 : Hd.length ≤ 3 := by omega
  -- tail
  refine ⟨_, rfl, a, ns, 2, rfl, s1.seq hS, by decide, .inl ⟨_, rfl, _, _, rfl, rfl, by show (0 : Int) < _; decide, (by show 1 ≤ sizeLine; decide), fun pt npt => ?_⟩⟩
  have s2 := same_new (o := .lst [.int (cell ns 2 % 256)]) npt
  have ht : Li (upd H1 pt (.lst [.int (cell ns 2 % 256)])) pt [cell ns 2 % 256] := upd_same
  have hh2 := s2 _ _ hh
  show tSeq _ _ _ _ (upd H1 pt (.lst [.int (cell ns 2 % 256)]))
  generalize upd H1 pt (.lst [.int (cell ns 2 % 256)]) = H2 at s2 ht hh2
  generalize cell ns 2 % 256 = tl at ht
  have sH2 := s1.trans s2
  -- at
  refine ⟨_, rfl, _, _, rfl, .inl ⟨_, SqL.of hh2, rfl⟩, ?_⟩
  rw [List.length_map]
  -- number
  refine ⟨_, rfl, a, ns, 3, rfl, sH2.seq hS, by decide, _, rfl, cell_nn _ _, fun H3 s3 => ?_⟩
  obtain ⟨n0, nlt⟩ := lawNum_lt (cell_nn ns 3)
  generalize lawNum (cell ns 3) = n at n0 nlt
  have hSB : (10 : Int) ^ 60 ≤ SB := by decide +kernel
  have hh3 := s3 _ _ hh2
  have ht3 := s3 _ _ ht
  have sH3 := sH2.trans s3
  -- for thing in ..
  refine ⟨_, rfl, _, rfl, _, rfl, _, rfl, _, rfl, _, _, rfl, rfl, (by show 4 ≤ sizeLine; decide), fun pl npl => ?_⟩
  have s4 := same_new (o := .lst [.int n, .int (-n), .int (-1 - n), .non]) npl
  have hpl : upd H3 pl (.lst [.int n, .int (-n), .int (-1 - n), .non]) pl = some (.lst (([some n, some (-n), some (-1 - n), none] : List (Option Int)).map vV)) := upd_same
  refine ⟨pl, rfl, ⟨_, SqL.of upd_same⟩, ?_⟩
  generalize upd H3 pl (.lst [.int n, .int (-n), .int (-1 - n), .non]) = H4 at s4 hpl
  have hth : ∀ o ∈ ([some n, some (-n), some (-1 - n), none] : List (Option Int)), SBo o := by
    intro o ho
    simp at ho
    rcases ho with rfl | rfl | rfl | rfl
    · exact ⟨by omega, by omega⟩
    · exact ⟨by omega, by omega⟩
    · have : (10 : Int) ^ 60 + 1 ≤ SB := by decide +kernel
      exact ⟨by omega, by omega⟩
    · trivial
  generalize ([some n, some (-n), some (-1 - n), none] : List (Option Int)) = Ts at hpl hth
  have hh4 := s4 _ _ hh3
  have ht4 := s4 _ _ ht3
  have sH4 := sH3.trans s4
  refine for_list (K := K) (a := pl) (xs := Ts.map vV) (fun i σ H' => ∃ v5 v6 v7, σ = [some (.ref a), some (.ref ph), some (.ref pt), some (.int (Hd.length : Nat)), some (.int n), v5, v6, v7, none, none, none] ∧ Same H4 H') ⟨none, none, none, rfl, Same.refl _⟩ (fun i σ H' _ ⟨_, _, _, _, sA⟩ => SqL.of (sA _ _ hpl)) ?_ ?_
  · rintro i y σ HA hi ⟨v5, v6, v7, rfl, sA⟩
    rw [List.getElem?_map] at hi
    obtain ⟨o, ho, rfl⟩ : ∃ o, Ts[i]? = some o ∧ y = vV o := by
      cases e : Ts[i]? with
      | none => rw [e] at hi; cases hi
      | some o => rw [e] at hi; exact ⟨o, rfl, (Option.some.inj hi).symm⟩
    have hso := hth o (List.mem_of_getElem? ho)
    have hel := encv_len hso
    have hhA := sA _ _ hh4
    have htA := sA _ _ ht4
    -- due = [0]
    refine ⟨(by show 1 ≤ sizeLine; decide), fun pu npu => ?_⟩
    have hdu : Li (upd HA pu (.lst [.int 0])) pu [0] := upd_same
    have s5 := same_new (o := .lst [.int 0]) npu
    show tSeq _ _ _ _ (upd HA pu (.lst [.int 0]))
    generalize upd HA pu (.lst [.int 0]) = HB at hdu s5
    have sAB := sA.trans s5
    -- behind the if: due is encv o
    suffices rest : ∀ (pd : Addr) (v7 : Option V) (H9 : Hp), Same HB H9 → Li H9 pd (encv o) → tSeq _ _ _ [some (.ref a), some (.ref ph), some (.ref pt), some (.int (Hd.length : Nat)), some (.int n), some (vV o), some (.ref pd), v7, none, none, none] H9 by
      cases o with
      | none => exact ⟨_, rfl, rfl, _, rfl, ifF rfl (rest pu v7 HB (Same.refl _) hdu)⟩
      | some z =>
        refine ⟨_, rfl, rfl, _, rfl, iteT ?_⟩
        have zl := vint_len100 (sgn_NB hso.1 hso.2)
        have hhB := s5 _ _ hhA
        have htB := s5 _ _ htA
        -- due = [1] + _law_signed(thing)
        refine ⟨(by show 1 ≤ sizeLine; decide), fun p1 np1 => ⟨_, rfl, z, rfl, hso.1, hso.2, fun p2 H6 s6 np2 hp2 => ⟨p1, p2, [.int 1], _, rfl, rfl, s6 _ _ upd_same, hp2, szle (by rw [List.length_map]; show 1 + _ ≤ _; omega), fun pd npd => ?_⟩⟩⟩
        have hdue : Li (upd H6 pd (.lst ([.int 1] ++ (vint (sgn z)).map V.int))) pd (encv (some z)) := upd_same
        have s7 := ((same_new (o := .lst [.int 1]) np1).trans s6).trans (same_new (o := .lst ([.int 1] ++ (vint (sgn z)).map V.int)) npd)
        show tSeq _ _ _ _ (upd H6 pd (.lst ([.int 1] ++ (vint (sgn z)).map V.int)))
        generalize upd H6 pd (.lst ([.int 1] ++ (vint (sgn z)).map V.int)) = H7 at hdue s7
        -- encode_signed(thing) != ..
        refine ⟨_, rfl, z, rfl, hso.1, hso.2, fun p3 H8 s8 np3 hp3 => ⟨_, rfl, z, rfl, hso.1, hso.2, fun p4 H9 s9 np4 hp4 => ⟨_, _, dp_ints (SqL.of (s9 _ _ hp3)), dp_ints (SqL.of hp4), shaped_dInts _, shaped_dInts _, _, rfl, ifF (by rw [eqv_dInts]; simp) ?_⟩⟩⟩
        have s79 := s8.trans s9
        have hh9 := s79 _ _ (s7 _ _ hhB)
        have ht9 := s79 _ _ (s7 _ _ htB)
        have hd9 := s79 _ _ hdue
        -- block = head + ..
        refine ⟨_, rfl, _, rfl, z, rfl, hso.1, hso.2, fun p5 H10 s10 np5 hp5 => ⟨ph, p5, _, _, rfl, rfl, s10 _ _ hh9, hp5, szle (by rw [List.length_map, List.length_map]; omega), fun pb npb => ?_⟩⟩
        rw [← List.map_append]
        have hb : Li (upd H10 pb (.lst ((Hd ++ vint (sgn z)).map V.int))) pb (Hd ++ vint (sgn z)) := upd_same
        have s11 := s10.trans (same_new (o := .lst ((Hd ++ vint (sgn z)).map V.int)) npb)
        show tSeq _ _ _ _ (upd H10 pb (.lst ((Hd ++ vint (sgn z)).map V.int)))
        generalize upd H10 pb (.lst ((Hd ++ vint (sgn z)).map V.int)) = H11 at hb s11
        -- _law_back(decode_signed(block + tail, at), thing, len(block))
        refine ⟨_, rfl, _, rfl, pb, pt, _, _, rfl, rfl, hb, s11 _ _ ht9, szle (by rw [List.length_map, List.length_map, List.length_append]; show _ + 1 ≤ _; omega), fun p6 np6 => ⟨_, rfl, p6, Hd ++ (vint (sgn z) ++ [tl]), _, rfl, SqL.of (by rw [upd_same, ← List.map_append, List.append_assoc]), fun v e cc q H12 s12 nq hq => ?_, fun cc => by rw [decs_enc] at cc; cases cc⟩⟩
        rw [decs_enc] at cc
        cases cc
        have s1112 := (same_new (o := .lst ((Hd ++ vint (sgn z)).map V.int ++ [tl].map V.int)) np6).trans s12
        have hb12 := s1112 _ _ hb
        refine ⟨_, rfl, _, rfl, _, _, rfl, .inl ⟨_, SqL.of hb12, rfl⟩, q, .int z, _, rfl, .int z, ?_, _, rfl, ifF rfl ?_⟩
        · rw [hq, List.length_map, List.length_append, Int.natCast_add]
        -- refused twice
        obtain ⟨_, _, _, _, l, el, l0, l1⟩ := scan_vint _ (sgn z) [] (Nat.lt_succ_self _) (sgn_nn z)
        have elen : (vint (sgn z)).length = (vint (sgn z)).dropLast.length + 1 := by
          have := congrArg List.length el
          rw [List.length_append] at this
          exact this
        have cutE : ∀ (X : List Int) (Y : List Int), Y ≠ [] → cutV ((X ++ Y).map V.int) none (some (-1)) = (X ++ Y.dropLast).map V.int := fun X Y hY => by
          rw [show (-1 : Int) = -((1 : Nat) : Int) from rfl, cut_ton _ 1 (by decide), List.length_map, ← List.map_take, ← List.dropLast_eq_take, List.dropLast_append_of_ne_nil hY]
        refine ⟨_, rfl, _, rfl, _, rfl, pb, _, rfl, SqL.of hb12, fun p7 np7 => ⟨_, rfl, 1, p7, Hd ++ (vint (sgn z)).dropLast, _, rfl, SqL.of (by rw [upd_same, cutE _ _ (vint_ne _)]), decs_cut Hd z, fun H13 s13 => ⟨_, rfl, ifF rfl ?_⟩⟩⟩
        have s1213 := (same_new (o := .lst (cutV ((Hd ++ vint (sgn z)).map V.int) none (some (-1)))) np7).trans s13
        have hd13 := s1213 _ _ (s1112 _ _ (s11 _ _ hd9))
        have hh13 := s1213 _ _ (s1112 _ _ (s11 _ _ hh9))
        refine ⟨_, rfl, _, rfl, _, rfl, _, rfl, pd, _, rfl, SqL.of hd13, fun p8 np8 => ⟨ph, p8, _, _, rfl, rfl, same_new np8 _ _ hh13, upd_same, szle (by rw [List.length_map]; have := cutV_length ((encv (some z)).map V.int) none (some (-1)); rw [List.length_map] at this; omega), fun p9 np9 => ⟨_, rfl, 2, p9, Hd ++ (encv (some z)).dropLast, _, rfl, SqL.of (by rw [upd_same, show cutV ((encv (some z)).map V.int) none (some (-1)) = ((encv (some z)).dropLast).map V.int from by have := cutE [] (encv (some z)) (by simp [encv]); simpa using this, ← List.map_append]), decv_cut Hd z, fun H14 s14 => ⟨_, rfl, ifF rfl ?_⟩⟩⟩⟩
        have s1314 := ((same_new (o := .lst (cutV ((encv (some z)).map V.int) none (some (-1)))) np8).trans (same_new np9)).trans s14
        exact rest pd (some (.ref pb)) H14 ((((s7.trans s79).trans s11).trans s1112).trans (s1213.trans s1314)) (s1314 _ _ hd13)
    intro pd v7 H9 s9 hd
    have sB9 := sAB.trans s9
    have hh9 := sB9 _ _ hh4
    have ht9 := sB9 _ _ ht4
    refine ⟨_, rfl, o, rfl, hso, fun p3 H10 s10 np3 hp3 => ⟨_, rfl, _, _, dp_ints (SqL.of hp3), dp_ints (SqL.of (s10 _ _ hd)), shaped_dInts _, shaped_dInts _, _, rfl, ifF (by rw [eqv_dInts]; simp) ?_⟩⟩
    refine ⟨_, rfl, _, rfl, ph, pd, _, _, rfl, rfl, s10 _ _ hh9, s10 _ _ hd, szle (by rw [List.length_map, List.length_map]; omega), fun p4 np4 => ⟨_, rfl, p4, pt, _, _, rfl, rfl, upd_same, same_new np4 _ _ (s10 _ _ ht9), szle (by rw [List.length_append, List.length_map, List.length_map]; show _ + 1 ≤ _; omega), fun p5 np5 => ⟨_, rfl, p5, Hd ++ (encv o ++ [tl]), _, rfl, SqL.of (by rw [upd_same, ← List.map_append, ← List.map_append, List.append_assoc]), fun v e cc q H12 s12 nq hq => ?_, fun cc => by rw [decv_enc] at cc; cases cc⟩⟩⟩
    rw [decv_enc] at cc
    cases cc
    have s1012 := ((same_new (o := .lst (Hd.map V.int ++ (encv o).map V.int)) np4).trans (same_new np5)).trans s12
    refine ⟨_, rfl, _, rfl, _, rfl, _, _, rfl, .inl ⟨_, SqL.of (s1012 _ _ (s10 _ _ hd)), rfl⟩, _, _, rfl, rfl, q, vV o, _, rfl, thing_v o, by rw [hq, List.length_map], _, rfl, ifF rfl ?_⟩
    exact ⟨_, _, _, rfl, (sB9.trans s10).trans s1012⟩
  rintro σ H5 ⟨v5, v6, v7, rfl, s5⟩
  have hh5 := s5 _ _ hh4
  have ht5 := s5 _ _ ht4
  have sH5 := sH4.trans s5
  -- wrong
  refine ⟨_, rfl, a, ns, 4, rfl, sH5.seq hS, by decide, .inl ⟨_, rfl, _, _, rfl, rfl, by show (0 : Int) < _; decide, _, _, rfl, rfl, ?_⟩⟩
  obtain ⟨wr, ew, hw⟩ : ∃ wr, 2 + cell ns 4 % 254 = wr ∧ 1 < wr := ⟨_, rfl, by
    have := cell_nn ns 4
    omega⟩
  -- for flag in ..
  refine ⟨(by show 2 ≤ sizeLine; decide), fun pf npf => ?_⟩
  have s6 := same_new (o := .lst [.bl false, .bl true]) npf
  have hpf : upd H5 pf (.lst [.bl false, .bl true]) pf = some (.lst (([false, true] : List Bool).map V.bl)) := upd_same
  refine ⟨pf, rfl, ⟨_, SqL.of upd_same⟩, ?_⟩
  generalize upd H5 pf (.lst [.bl false, .bl true]) = H6 at s6 hpf
  have hh6 := s6 _ _ hh5
  have ht6 := s6 _ _ ht5
  refine for_list (K := K) (a := pf) (xs := ([false, true] : List Bool).map V.bl) (fun i σ H' => ∃ v9, σ = [some (.ref a), some (.ref ph), some (.ref pt), some (.int (Hd.length : Nat)), some (.int n), v5, v6, v7, some (.int wr), v9, none] ∧ Same H6 H') ⟨none, by rw [← ew]; rfl, Same.refl _⟩ (fun i σ H' _ ⟨_, _, sA⟩ => SqL.of (sA _ _ hpf)) ?_ ?_
  · rintro i y σ HA hi ⟨v9, rfl, sA⟩
    obtain ⟨b, rfl⟩ : ∃ b, y = V.bl b := by
      rw [List.getElem?_map] at hi
      cases e : ([false, true] : List Bool)[i]? with
      | none => rw [e] at hi; cases hi
      | some b => rw [e] at hi; exact ⟨b, (Option.some.inj hi).symm⟩
    have hhA := sA _ _ hh6
    have htA := sA _ _ ht6
    refine ⟨_, rfl, b, rfl, fun p1 HB sB np1 hp1 => ⟨_, rfl, .inr ⟨b, rfl, (by show 1 ≤ sizeLine; decide), fun p2 np2 => ⟨_, _, dp_ints (SqL.of (same_new np2 _ _ hp1)), dp_ints (ns := [if b then 1 else 0]) (SqL.of upd_same), shaped_dInts _, shaped_dInts _, _, rfl, ifF (by rw [eqv_dInts]; simp) ?_⟩⟩⟩⟩
    have sB2 := sB.trans (same_new (o := .lst [.int (if b then 1 else 0)]) np2)
    have hhB := sB2 _ _ hhA
    have htB := sB2 _ _ htA
    refine ⟨_, rfl, _, rfl, .inr ⟨b, rfl, (by show 1 ≤ sizeLine; decide), fun p3 np3 => ⟨ph, p3, _, [.int (if b then 1 else 0)], rfl, rfl, same_new np3 _ _ hhB, upd_same, szle (by rw [List.length_map]; show _ + 1 ≤ _; omega), fun p4 np4 => ⟨_, rfl, p4, pt, _, _, rfl, rfl, upd_same, same_new np4 _ _ (same_new np3 _ _ htB), szle (by rw [List.length_append, List.length_map, List.length_map]; show _ + 1 + 1 ≤ _; omega), fun p5 np5 => ⟨_, rfl, p5, Hd ++ (if b then 1 else 0) :: [tl], _, rfl, SqL.of (by rw [upd_same, List.map_append, List.append_assoc]; rfl), fun v e cc q HC sC nq hq => ?_, fun cc => ?_⟩⟩⟩⟩⟩
    · have ed := decf_at Hd [tl] (if b then 1 else 0)
      rw [cc, if_neg (by cases b <;> decide)] at ed
      cases ed
      have eb : decide ((if b = true then (1 : Int) else 0) = 1) = b := by cases b <;> rfl
      rw [eb] at hq
      have sBC := ((same_new (o := .lst [.int (if b then 1 else 0)]) np3).trans ((same_new np4).trans (same_new np5))).trans sC
      exact ⟨_, rfl, _, rfl, _, _, rfl, rfl, q, .bl b, _, rfl, .bl b, hq, _, rfl, ifF rfl ⟨_, rfl, (sA.trans sB2).trans sBC⟩⟩
    · rw [decf_at, if_neg (by cases b <;> decide)] at cc
      cases cc
  rintro σ H7 ⟨v9, rfl, s7⟩
  have hh7 := s7 _ _ hh6
  have ht7 := s7 _ _ ht6
  -- for which in ..
  refine ⟨(by show 3 ≤ sizeLine; decide), fun pf npf => ?_⟩
  have s8 := same_new (o := .lst [.int 0, .int 1, .int 2]) npf
  have hpf : upd H7 pf (.lst [.int 0, .int 1, .int 2]) pf = some (.lst (([0, 1, 2] : List Int).map V.int)) := upd_same
  refine ⟨pf, rfl, ⟨_, SqL.of upd_same⟩, ?_⟩
  generalize upd H7 pf (.lst [.int 0, .int 1, .int 2]) = H8 at s8 hpf
  have hh8 := s8 _ _ hh7
  have ht8 := s8 _ _ ht7
  refine for_list (K := K) (a := pf) (xs := ([0, 1, 2] : List Int).map V.int) (fun i σ H' => ∃ v10, σ = [some (.ref a), some (.ref ph), some (.ref pt), some (.int (Hd.length : Nat)), some (.int n), v5, v6, v7, some (.int wr), v9, v10] ∧ Same H8 H') ⟨none, rfl, Same.refl _⟩ (fun i σ H' _ ⟨_, _, sA⟩ => SqL.of (sA _ _ hpf)) ?_ (fun σ H' _ => h1 _)
  rintro i y σ HA hi ⟨v10, rfl, sA⟩
  obtain ⟨z, hz, rfl⟩ := mem_int hi
  have hhA := sA _ _ hh8
  have htA := sA _ _ ht8
  refine ⟨_, rfl, _, rfl, _, rfl, z, ph, Hd, _, rfl, SqL.of hhA, bad_out z (.inr (by omega)), fun HB sB => ⟨_, rfl, ifF rfl ?_⟩⟩
  refine ⟨_, rfl, _, rfl, _, rfl, ph, pt, _, _, rfl, rfl, sB _ _ hhA, sB _ _ htA, szle (by rw [List.length_map, List.length_map]; show _ + 1 ≤ _; omega), fun p1 np1 => ⟨_, rfl, z, p1, Hd ++ [tl], _, rfl, SqL.of (by rw [upd_same, List.map_append]), bad_out z (.inl (by decide)), fun HC sC => ⟨_, rfl, ifF rfl ?_⟩⟩⟩
  have sBC := (sB.trans (same_new (o := .lst (Hd.map V.int ++ [tl].map V.int)) np1)).trans sC
  refine ⟨_, rfl, rfl, _, rfl, iteN (fun k => ?_) (fun k => ifF rfl ⟨_, rfl, sA.trans sBC⟩)⟩
  have hz1 : z ≠ 1 := fun q => k (congrArg V.int q)
  refine ⟨_, rfl, _, rfl, _, rfl, (by show 1 ≤ sizeLine; decide), fun p3 np3 => ⟨ph, p3, _, [.int wr], rfl, rfl, same_new np3 _ _ (sBC _ _ hhA), upd_same, szle (by rw [List.length_map]; show _ + 1 ≤ _; omega), fun p4 np4 => ⟨_, rfl, p4, pt, _, _, rfl, rfl, upd_same, same_new np4 _ _ (same_new np3 _ _ (sBC _ _ htA)), szle (by rw [List.length_append, List.length_map, List.length_map]; show _ + 1 + 1 ≤ _; omega), fun p5 np5 => ⟨_, rfl, z, p5, Hd ++ wr :: [tl], _, rfl, SqL.of (by rw [upd_same, List.map_append, List.append_assoc]; rfl), bad_big Hd [tl] hw hz1, fun HD sD => ⟨_, rfl, ifF rfl ⟨_, rfl, ?_⟩⟩⟩⟩⟩⟩
  exact (sA.trans sBC).trans (((same_new np3).trans ((same_new np4).trans (same_new np5))).trans sD)

end
theorem all_mk {l : PySem.W.OpenLaw} {w : World} {K : PySem.W.Frag} {h : Heap} {mg : Str → Option Value} {fa C_MeridianError C_BadArgument C_BadBytes f_encode_number f_decode_number f_encode_signed f_decode_signed f_encode_flag f_decode_flag f_encode_value f_decode_value f__check_index f__last_index f__law_cell f__law_is_int f__law_varint f__law_signed f__law_draws f__law_block f__law_number f__law_refused f__law_back f_law : Addr} (X : K.In h) (G : h.Ns mainGlobals mg) (hfa : mg "law" = some (.ref fa))
    {od_encode_number an_encode_number : Option Addr} {sl_encode_number : Array (Option Value)} {oc_encode_number kV_encode_number dc_encode_number pm_encode_number cd_encode_number ct_encode_number : Value}
    {od_decode_number an_decode_number : Option Addr} {sl_decode_number : Array (Option Value)} {oc_decode_number kV_decode_number dc_decode_number pm_decode_number cd_decode_number ct_decode_number : Value}
    {D_decode_number : Addr} {to_decode_number : Value} {td_decode_number : Option Addr} {tn_decode_number : Nat} {tl_decode_number : Array (Option Value)} {tk0_decode_number : Tok}
    {od_encode_signed an_encode_signed : Option Addr} {sl_encode_signed : Array (Option Value)} {oc_encode_signed kV_encode_signed dc_encode_signed pm_encode_signed cd_encode_signed ct_encode_signed : Value}
    {od_decode_signed an_decode_signed : Option Addr} {sl_decode_signed : Array (Option Value)} {oc_decode_signed kV_decode_signed dc_decode_signed pm_decode_signed cd_decode_signed ct_decode_signed : Value}
    {D_decode_signed : Addr} {to_decode_signed : Value} {td_decode_signed : Option Addr} {tn_decode_signed : Nat} {tl_decode_signed : Array (Option Value)} {tk0_decode_signed : Tok}
    {od_encode_flag an_encode_flag : Option Addr} {sl_encode_flag : Array (Option Value)} {oc_encode_flag kV_encode_flag dc_encode_flag pm_encode_flag cd_encode_flag ct_encode_flag : Value}
    {od_decode_flag an_decode_flag : Option Addr} {sl_decode_flag : Array (Option Value)} {oc_decode_flag kV_decode_flag dc_decode_flag pm_decode_flag cd_decode_flag ct_decode_flag : Value}
    {D_decode_flag : Addr} {to_decode_flag : Value} {td_decode_flag : Option Addr} {tn_decode_flag : Nat} {tl_decode_flag : Array (Option Value)} {tk0_decode_flag : Tok}
    {od_encode_value an_encode_value : Option Addr} {sl_encode_value : Array (Option Value)} {oc_encode_value kV_encode_value dc_encode_value pm_encode_value cd_encode_value ct_encode_value : Value}
    {od_decode_value an_decode_value : Option Addr} {sl_decode_value : Array (Option Value)} {oc_decode_value kV_decode_value dc_decode_value pm_decode_value cd_decode_value ct_decode_value : Value}
    {D_decode_value : Addr} {to_decode_value : Value} {td_decode_value : Option Addr} {tn_decode_value : Nat} {tl_decode_value : Array (Option Value)} {tk0_decode_value : Tok}
    {od__check_index an__check_index : Option Addr} {sl__check_index : Array (Option Value)} {oc__check_index kV__check_index dc__check_index pm__check_index cd__check_index ct__check_index : Value}
    {od__last_index an__last_index : Option Addr} {sl__last_index : Array (Option Value)} {oc__last_index kV__last_index dc__last_index pm__last_index cd__last_index ct__last_index : Value}
    {od__law_cell an__law_cell : Option Addr} {sl__law_cell : Array (Option Value)} {oc__law_cell kV__law_cell dc__law_cell pm__law_cell cd__law_cell ct__law_cell : Value}
    {od__law_is_int an__law_is_int : Option Addr} {sl__law_is_int : Array (Option Value)} {oc__law_is_int kV__law_is_int dc__law_is_int pm__law_is_int cd__law_is_int ct__law_is_int : Value}
    {od__law_varint an__law_varint : Option Addr} {sl__law_varint : Array (Option Value)} {oc__law_varint kV__law_varint dc__law_varint pm__law_varint cd__law_varint ct__law_varint : Value}
    {od__law_signed an__law_signed : Option Addr} {sl__law_signed : Array (Option Value)} {oc__law_signed kV__law_signed dc__law_signed pm__law_signed cd__law_signed ct__law_signed : Value}
    {od__law_draws an__law_draws : Option Addr} {sl__law_draws : Array (Option Value)} {oc__law_draws kV__law_draws dc__law_draws pm__law_draws cd__law_draws ct__law_draws : Value}
    {od__law_block an__law_block : Option Addr} {sl__law_block : Array (Option Value)} {oc__law_block kV__law_block dc__law_block pm__law_block cd__law_block ct__law_block : Value}
    {od__law_number an__law_number : Option Addr} {sl__law_number : Array (Option Value)} {oc__law_number kV__law_number dc__law_number pm__law_number cd__law_number ct__law_number : Value}
    {od__law_refused an__law_refused : Option Addr} {sl__law_refused : Array (Option Value)} {oc__law_refused kV__law_refused dc__law_refused pm__law_refused cd__law_refused ct__law_refused : Value}
    {od__law_back an__law_back : Option Addr} {sl__law_back : Array (Option Value)} {oc__law_back kV__law_back dc__law_back pm__law_back cd__law_back ct__law_back : Value}
    {od_law an_law : Option Addr} {sl_law : Array (Option Value)} {oc_law kV_law dc_law pm_law cd_law ct_law : Value}
    (mg_MeridianError : PySem.W.nsIn K mainGlobals "MeridianError" = some (some (.ref C_MeridianError)))
    (x_MeridianError : PySem.W.excIn K C_MeridianError [.type "ValueError", .type "Exception", .type "BaseException", .type "object"] "ValueError.__new__" = true)
    (kc_MeridianError : PySem.W.keepIn K (.ref C_MeridianError) = true)
    (bp_MeridianError : PySem.W.subIn K (.ref C_MeridianError) (.type "BaseException") = some true)
    (tp_MeridianError : PySem.W.typeIn K (.ref C_MeridianError) = some (.type "type"))
    (ip_MeridianError : PySem.W.isClsIn K C_MeridianError = true)
    (ga_MeridianError : PySem.W.findIn K (.ref C_MeridianError) "__getattribute__" = some (some (.builtin "BaseException.__getattribute__")))
    (gt_MeridianError : PySem.W.findIn K (.ref C_MeridianError) "__getattr__" = some none)
    (hd_MeridianError : PySem.W.hasDictIn K C_MeridianError = true)
    (ca_MeridianError : PySem.W.findIn K (.ref C_MeridianError) "__class__" = some (some (.builtin "object.__class__")))
    (mo_MeridianError : PySem.W.mroIn K C_MeridianError (.type "object") = some true)
    (ve_MeridianError : PySem.W.subIn K (.ref C_MeridianError) (.type "ValueError") = some true)
    (u_MeridianError_MeridianError : PySem.W.subIn K (.ref C_MeridianError) (.ref C_MeridianError) = some true)
    (u_MeridianError_BadArgument : PySem.W.subIn K (.ref C_MeridianError) (.ref C_BadArgument) = some false)
    (u_MeridianError_BadBytes : PySem.W.subIn K (.ref C_MeridianError) (.ref C_BadBytes) = some false)
    (mg_BadArgument : PySem.W.nsIn K mainGlobals "BadArgument" = some (some (.ref C_BadArgument)))
    (x_BadArgument : PySem.W.excIn K C_BadArgument [.type "ValueError", .type "Exception", .type "BaseException", .type "object"] "ValueError.__new__" = true)
    (kc_BadArgument : PySem.W.keepIn K (.ref C_BadArgument) = true)
    (bp_BadArgument : PySem.W.subIn K (.ref C_BadArgument) (.type "BaseException") = some true)
    (tp_BadArgument : PySem.W.typeIn K (.ref C_BadArgument) = some (.type "type"))
    (ip_BadArgument : PySem.W.isClsIn K C_BadArgument = true)
    (ga_BadArgument : PySem.W.findIn K (.ref C_BadArgument) "__getattribute__" = some (some (.builtin "BaseException.__getattribute__")))
    (gt_BadArgument : PySem.W.findIn K (.ref C_BadArgument) "__getattr__" = some none)
    (hd_BadArgument : PySem.W.hasDictIn K C_BadArgument = true)
    (ca_BadArgument : PySem.W.findIn K (.ref C_BadArgument) "__class__" = some (some (.builtin "object.__class__")))
    (mo_BadArgument : PySem.W.mroIn K C_BadArgument (.type "object") = some true)
    (ve_BadArgument : PySem.W.subIn K (.ref C_BadArgument) (.type "ValueError") = some true)
    (u_BadArgument_MeridianError : PySem.W.subIn K (.ref C_BadArgument) (.ref C_MeridianError) = some true)
    (u_BadArgument_BadArgument : PySem.W.subIn K (.ref C_BadArgument) (.ref C_BadArgument) = some true)
    (u_BadArgument_BadBytes : PySem.W.subIn K (.ref C_BadArgument) (.ref C_BadBytes) = some false)
    (mg_BadBytes : PySem.W.nsIn K mainGlobals "BadBytes" = some (some (.ref C_BadBytes)))
    (x_BadBytes : PySem.W.excIn K C_BadBytes [.type "ValueError", .type "Exception", .type "BaseException", .type "object"] "ValueError.__new__" = true)
    (kc_BadBytes : PySem.W.keepIn K (.ref C_BadBytes) = true)
    (bp_BadBytes : PySem.W.subIn K (.ref C_BadBytes) (.type "BaseException") = some true)
    (tp_BadBytes : PySem.W.typeIn K (.ref C_BadBytes) = some (.type "type"))
    (ip_BadBytes : PySem.W.isClsIn K C_BadBytes = true)
    (ga_BadBytes : PySem.W.findIn K (.ref C_BadBytes) "__getattribute__" = some (some (.builtin "BaseException.__getattribute__")))
    (gt_BadBytes : PySem.W.findIn K (.ref C_BadBytes) "__getattr__" = some none)
    (hd_BadBytes : PySem.W.hasDictIn K C_BadBytes = true)
    (ca_BadBytes : PySem.W.findIn K (.ref C_BadBytes) "__class__" = some (some (.builtin "object.__class__")))
    (mo_BadBytes : PySem.W.mroIn K C_BadBytes (.type "object") = some true)
    (ve_BadBytes : PySem.W.subIn K (.ref C_BadBytes) (.type "ValueError") = some true)
    (u_BadBytes_MeridianError : PySem.W.subIn K (.ref C_BadBytes) (.ref C_MeridianError) = some true)
    (u_BadBytes_BadArgument : PySem.W.subIn K (.ref C_BadBytes) (.ref C_BadArgument) = some false)
    (u_BadBytes_BadBytes : PySem.W.subIn K (.ref C_BadBytes) (.ref C_BadBytes) = some true)
    (cn : PySem.W.specialIn K (.builtin "object.__class__") "__get__" = some (some (.builtin "getset_descriptor.__get__")))
    (ct : PySem.W.takesIn K (.builtin "object.__class__") = some true)
    (a_encode_number : PySem.W.nsIn K mainGlobals "encode_number" = some (some (.ref f_encode_number)))
    (l_encode_number : K.lookup f_encode_number = some ⟨oc_encode_number, od_encode_number, .func (PySem.W.fnOf "encode_number" "encode_number" (defArgs s_encode_number) (defBody s_encode_number) (defScope s_encode_number) .none kV_encode_number dc_encode_number pm_encode_number an_encode_number cd_encode_number ct_encode_number), sl_encode_number⟩)
    (c_encode_number : PySem.W.codeIn K cd_encode_number "encode_number" = true)
    (k_encode_number : PySem.W.keepIn K (.ref f_encode_number) = true)
    (a_decode_number : PySem.W.nsIn K mainGlobals "decode_number" = some (some (.ref f_decode_number)))
    (l_decode_number : K.lookup f_decode_number = some ⟨oc_decode_number, od_decode_number, .func (PySem.W.fnOf "decode_number" "decode_number" (defArgs s_decode_number) (defBody s_decode_number) (defScope s_decode_number) (.ref D_decode_number) kV_decode_number dc_decode_number pm_decode_number an_decode_number cd_decode_number ct_decode_number), sl_decode_number⟩)
    (t_decode_number : K.lookup D_decode_number = some ⟨to_decode_number, td_decode_number, .seq ([.int 0 tk0_decode_number] : List Value).toArray tn_decode_number, tl_decode_number⟩)
    (c_decode_number : PySem.W.codeIn K cd_decode_number "decode_number" = true)
    (k_decode_number : PySem.W.keepIn K (.ref f_decode_number) = true)
    (a_encode_signed : PySem.W.nsIn K mainGlobals "encode_signed" = some (some (.ref f_encode_signed)))
    (l_encode_signed : K.lookup f_encode_signed = some ⟨oc_encode_signed, od_encode_signed, .func (PySem.W.fnOf "encode_signed" "encode_signed" (defArgs s_encode_signed) (defBody s_encode_signed) (defScope s_encode_signed) .none kV_encode_signed dc_encode_signed pm_encode_signed an_encode_signed cd_encode_signed ct_encode_signed), sl_encode_signed⟩)
    (c_encode_signed : PySem.W.codeIn K cd_encode_signed "encode_signed" = true)
    (k_encode_signed : PySem.W.keepIn K (.ref f_encode_signed) = true)
    (a_decode_signed : PySem.W.nsIn K mainGlobals "decode_signed" = some (some (.ref f_decode_signed)))
    (l_decode_signed : K.lookup f_decode_signed = some ⟨oc_decode_signed, od_decode_signed, .func (PySem.W.fnOf "decode_signed" "decode_signed" (defArgs s_decode_signed) (defBody s_decode_signed) (defScope s_decode_signed) (.ref D_decode_signed) kV_decode_signed dc_decode_signed pm_decode_signed an_decode_signed cd_decode_signed ct_decode_signed), sl_decode_signed⟩)
    (t_decode_signed : K.lookup D_decode_signed = some ⟨to_decode_signed, td_decode_signed, .seq ([.int 0 tk0_decode_signed] : List Value).toArray tn_decode_signed, tl_decode_signed⟩)
    (c_decode_signed : PySem.W.codeIn K cd_decode_signed "decode_signed" = true)
    (k_decode_signed : PySem.W.keepIn K (.ref f_decode_signed) = true)
    (a_encode_flag : PySem.W.nsIn K mainGlobals "encode_flag" = some (some (.ref f_encode_flag)))
    (l_encode_flag : K.lookup f_encode_flag = some ⟨oc_encode_flag, od_encode_flag, .func (PySem.W.fnOf "encode_flag" "encode_flag" (defArgs s_encode_flag) (defBody s_encode_flag) (defScope s_encode_flag) .none kV_encode_flag dc_encode_flag pm_encode_flag an_encode_flag cd_encode_flag ct_encode_flag), sl_encode_flag⟩)
    (c_encode_flag : PySem.W.codeIn K cd_encode_flag "encode_flag" = true)
    (k_encode_flag : PySem.W.keepIn K (.ref f_encode_flag) = true)
    (a_decode_flag : PySem.W.nsIn K mainGlobals "decode_flag" = some (some (.ref f_decode_flag)))
    (l_decode_flag : K.lookup f_decode_flag = some ⟨oc_decode_flag, od_decode_flag, .func (PySem.W.fnOf "decode_flag" "decode_flag" (defArgs s_decode_flag) (defBody s_decode_flag) (defScope s_decode_flag) (.ref D_decode_flag) kV_decode_flag dc_decode_flag pm_decode_flag an_decode_flag cd_decode_flag ct_decode_flag), sl_decode_flag⟩)
    (t_decode_flag : K.lookup D_decode_flag = some ⟨to_decode_flag, td_decode_flag, .seq ([.int 0 tk0_decode_flag] : List Value).toArray tn_decode_flag, tl_decode_flag⟩)
    (c_decode_flag : PySem.W.codeIn K cd_decode_flag "decode_flag" = true)
    (k_decode_flag : PySem.W.keepIn K (.ref f_decode_flag) = true)
    (a_encode_value : PySem.W.nsIn K mainGlobals "encode_value" = some (some (.ref f_encode_value)))
    (l_encode_value : K.lookup f_encode_value = some ⟨oc_encode_value, od_encode_value, .func (PySem.W.fnOf "encode_value" "encode_value" (defArgs s_encode_value) (defBody s_encode_value) (defScope s_encode_value) .none kV_encode_value dc_encode_value pm_encode_value an_encode_value cd_encode_value ct_encode_value), sl_encode_value⟩)
    (c_encode_value : PySem.W.codeIn K cd_encode_value "encode_value" = true)
    (k_encode_value : PySem.W.keepIn K (.ref f_encode_value) = true)
    (a_decode_value : PySem.W.nsIn K mainGlobals "decode_value" = some (some (.ref f_decode_value)))
    (l_decode_value : K.lookup f_decode_value = some ⟨oc_decode_value, od_decode_value, .func (PySem.W.fnOf "decode_value" "decode_value" (defArgs s_decode_value) (defBody s_decode_value) (defScope s_decode_value) (.ref D_decode_value) kV_decode_value dc_decode_value pm_decode_value an_decode_value cd_decode_value ct_decode_value), sl_decode_value⟩)
    (t_decode_value : K.lookup D_decode_value = some ⟨to_decode_value, td_decode_value, .seq ([.int 0 tk0_decode_value] : List Value).toArray tn_decode_value, tl_decode_value⟩)
    (c_decode_value : PySem.W.codeIn K cd_decode_value "decode_value" = true)
    (k_decode_value : PySem.W.keepIn K (.ref f_decode_value) = true)
    (a__check_index : PySem.W.nsIn K mainGlobals "_check_index" = some (some (.ref f__check_index)))
    (l__check_index : K.lookup f__check_index = some ⟨oc__check_index, od__check_index, .func (PySem.W.fnOf "_check_index" "_check_index" (defArgs s__check_index) (defBody s__check_index) (defScope s__check_index) .none kV__check_index dc__check_index pm__check_index an__check_index cd__check_index ct__check_index), sl__check_index⟩)
    (c__check_index : PySem.W.codeIn K cd__check_index "_check_index" = true)
    (k__check_index : PySem.W.keepIn K (.ref f__check_index) = true)
    (a__last_index : PySem.W.nsIn K mainGlobals "_last_index" = some (some (.ref f__last_index)))
    (l__last_index : K.lookup f__last_index = some ⟨oc__last_index, od__last_index, .func (PySem.W.fnOf "_last_index" "_last_index" (defArgs s__last_index) (defBody s__last_index) (defScope s__last_index) .none kV__last_index dc__last_index pm__last_index an__last_index cd__last_index ct__last_index), sl__last_index⟩)
    (c__last_index : PySem.W.codeIn K cd__last_index "_last_index" = true)
    (k__last_index : PySem.W.keepIn K (.ref f__last_index) = true)
    (a__law_cell : PySem.W.nsIn K mainGlobals "_law_cell" = some (some (.ref f__law_cell)))
    (l__law_cell : K.lookup f__law_cell = some ⟨oc__law_cell, od__law_cell, .func (PySem.W.fnOf "_law_cell" "_law_cell" (defArgs s__law_cell) (defBody s__law_cell) (defScope s__law_cell) .none kV__law_cell dc__law_cell pm__law_cell an__law_cell cd__law_cell ct__law_cell), sl__law_cell⟩)
    (c__law_cell : PySem.W.codeIn K cd__law_cell "_law_cell" = true)
    (k__law_cell : PySem.W.keepIn K (.ref f__law_cell) = true)
    (a__law_is_int : PySem.W.nsIn K mainGlobals "_law_is_int" = some (some (.ref f__law_is_int)))
    (l__law_is_int : K.lookup f__law_is_int = some ⟨oc__law_is_int, od__law_is_int, .func (PySem.W.fnOf "_law_is_int" "_law_is_int" (defArgs s__law_is_int) (defBody s__law_is_int) (defScope s__law_is_int) .none kV__law_is_int dc__law_is_int pm__law_is_int an__law_is_int cd__law_is_int ct__law_is_int), sl__law_is_int⟩)
    (c__law_is_int : PySem.W.codeIn K cd__law_is_int "_law_is_int" = true)
    (k__law_is_int : PySem.W.keepIn K (.ref f__law_is_int) = true)
    (a__law_varint : PySem.W.nsIn K mainGlobals "_law_varint" = some (some (.ref f__law_varint)))
    (l__law_varint : K.lookup f__law_varint = some ⟨oc__law_varint, od__law_varint, .func (PySem.W.fnOf "_law_varint" "_law_varint" (defArgs s__law_varint) (defBody s__law_varint) (defScope s__law_varint) .none kV__law_varint dc__law_varint pm__law_varint an__law_varint cd__law_varint ct__law_varint), sl__law_varint⟩)
    (c__law_varint : PySem.W.codeIn K cd__law_varint "_law_varint" = true)
    (k__law_varint : PySem.W.keepIn K (.ref f__law_varint) = true)
    (a__law_signed : PySem.W.nsIn K mainGlobals "_law_signed" = some (some (.ref f__law_signed)))
    (l__law_signed : K.lookup f__law_signed = some ⟨oc__law_signed, od__law_signed, .func (PySem.W.fnOf "_law_signed" "_law_signed" (defArgs s__law_signed) (defBody s__law_signed) (defScope s__law_signed) .none kV__law_signed dc__law_signed pm__law_signed an__law_signed cd__law_signed ct__law_signed), sl__law_signed⟩)
    (c__law_signed : PySem.W.codeIn K cd__law_signed "_law_signed" = true)
    (k__law_signed : PySem.W.keepIn K (.ref f__law_signed) = true)
    (a__law_draws : PySem.W.nsIn K mainGlobals "_law_draws" = some (some (.ref f__law_draws)))
    (l__law_draws : K.lookup f__law_draws = some ⟨oc__law_draws, od__law_draws, .func (PySem.W.fnOf "_law_draws" "_law_draws" (defArgs s__law_draws) (defBody s__law_draws) (defScope s__law_draws) .none kV__law_draws dc__law_draws pm__law_draws an__law_draws cd__law_draws ct__law_draws), sl__law_draws⟩)
    (c__law_draws : PySem.W.codeIn K cd__law_draws "_law_draws" = true)
    (k__law_draws : PySem.W.keepIn K (.ref f__law_draws) = true)
    (a__law_block : PySem.W.nsIn K mainGlobals "_law_block" = some (some (.ref f__law_block)))
    (l__law_block : K.lookup f__law_block = some ⟨oc__law_block, od__law_block, .func (PySem.W.fnOf "_law_block" "_law_block" (defArgs s__law_block) (defBody s__law_block) (defScope s__law_block) .none kV__law_block dc__law_block pm__law_block an__law_block cd__law_block ct__law_block), sl__law_block⟩)
    (c__law_block : PySem.W.codeIn K cd__law_block "_law_block" = true)
    (k__law_block : PySem.W.keepIn K (.ref f__law_block) = true)
    (a__law_number : PySem.W.nsIn K mainGlobals "_law_number" = some (some (.ref f__law_number)))
    (l__law_number : K.lookup f__law_number = some ⟨oc__law_number, od__law_number, .func (PySem.W.fnOf "_law_number" "_law_number" (defArgs s__law_number) (defBody s__law_number) (defScope s__law_number) .none kV__law_number dc__law_number pm__law_number an__law_number cd__law_number ct__law_number), sl__law_number⟩)
    (c__law_number : PySem.W.codeIn K cd__law_number "_law_number" = true)
    (k__law_number : PySem.W.keepIn K (.ref f__law_number) = true)
    (a__law_refused : PySem.W.nsIn K mainGlobals "_law_refused" = some (some (.ref f__law_refused)))
    (l__law_refused : K.lookup f__law_refused = some ⟨oc__law_refused, od__law_refused, .func (PySem.W.fnOf "_law_refused" "_law_refused" (defArgs s__law_refused) (defBody s__law_refused) (defScope s__law_refused) .none kV__law_refused dc__law_refused pm__law_refused an__law_refused cd__law_refused ct__law_refused), sl__law_refused⟩)
    (c__law_refused : PySem.W.codeIn K cd__law_refused "_law_refused" = true)
    (k__law_refused : PySem.W.keepIn K (.ref f__law_refused) = true)
    (a__law_back : PySem.W.nsIn K mainGlobals "_law_back" = some (some (.ref f__law_back)))
    (l__law_back : K.lookup f__law_back = some ⟨oc__law_back, od__law_back, .func (PySem.W.fnOf "_law_back" "_law_back" (defArgs s__law_back) (defBody s__law_back) (defScope s__law_back) .none kV__law_back dc__law_back pm__law_back an__law_back cd__law_back ct__law_back), sl__law_back⟩)
    (c__law_back : PySem.W.codeIn K cd__law_back "_law_back" = true)
    (k__law_back : PySem.W.keepIn K (.ref f__law_back) = true)
    (a_law : PySem.W.nsIn K mainGlobals "law" = some (some (.ref f_law)))
    (l_law : K.lookup f_law = some ⟨oc_law, od_law, .func (PySem.W.fnOf "law" "law" (defArgs s_law) (defBody s_law) (defScope s_law) .none kV_law dc_law pm_law an_law cd_law ct_law), sl_law⟩)
    (c_law : PySem.W.codeIn K cd_law "law" = true)
    (k_law : PySem.W.keepIn K (.ref f_law) = true)
    (z_len : PySem.W.nsIn K mainGlobals "len" = some none)
    (z_abs : PySem.W.nsIn K mainGlobals "abs" = some none)
    (z_int : PySem.W.nsIn K mainGlobals "int" = some none)
    (z_isinstance : PySem.W.nsIn K mainGlobals "isinstance" = some none)
    (z_bool : PySem.W.nsIn K mainGlobals "bool" = some none)
    (z_range : PySem.W.nsIn K mainGlobals "range" = some none)
    (z_tuple : PySem.W.nsIn K mainGlobals "tuple" = some none) :
    ∃ fd : FuncData, (∀ (s : Shared) (v : Value), BindsTo s fd ⟨[v], []⟩ [("script", v)]) ∧ ∀ base : Heap, K.In base → base.Ns mainGlobals mg → FnOk l.prog w K mg base CX0 9 fa fd ["script"] (spLaw K) := by
  have e : f_law = fa := (Value.ref.inj (Option.some.inj (hfa.symm.trans (PySem.W.mg_of X G a_law)))).symm
  subst e
  have G_decode_number : FunD K "decode_number" "decode_number" (defArgs s_decode_number) (defBody s_decode_number) (defScope s_decode_number) [.int 0] [] f_decode_number _ := ⟨⟨_, _, _, _, _, _, _, _, _, _, rfl, l_decode_number, c_decode_number, .inr ⟨by simp, D_decode_number, _, _, _, rfl, t_decode_number, rfl, (.cons ⟨_, rfl⟩ .nil)⟩, .inl rfl⟩, k_decode_number⟩
  have B1_decode_number := G_decode_number.binds1 (ps := ["block", "at"]) 1 0 (by simp) rfl fun _ _ _ _ _ _ _ us its hu hi => match us, its, hu, hi with | [_], [_], _, _ => ⟨_, rfl, rfl⟩
  have B2_decode_number := G_decode_number.binds1 (ps := ["block", "at"]) 2 1 (by simp) rfl fun _ _ _ _ _ _ _ us its hu hi => match us, its, hu, hi with | [_, _], [_], _, _ => ⟨_, rfl, rfl⟩
  have G_decode_signed : FunD K "decode_signed" "decode_signed" (defArgs s_decode_signed) (defBody s_decode_signed) (defScope s_decode_signed) [.int 0] [] f_decode_signed _ := ⟨⟨_, _, _, _, _, _, _, _, _, _, rfl, l_decode_signed, c_decode_signed, .inr ⟨by simp, D_decode_signed, _, _, _, rfl, t_decode_signed, rfl, (.cons ⟨_, rfl⟩ .nil)⟩, .inl rfl⟩, k_decode_signed⟩
  have B1_decode_signed := G_decode_signed.binds1 (ps := ["block", "at"]) 1 0 (by simp) rfl fun _ _ _ _ _ _ _ us its hu hi => match us, its, hu, hi with | [_], [_], _, _ => ⟨_, rfl, rfl⟩
  have B2_decode_signed := G_decode_signed.binds1 (ps := ["block", "at"]) 2 1 (by simp) rfl fun _ _ _ _ _ _ _ us its hu hi => match us, its, hu, hi with | [_, _], [_], _, _ => ⟨_, rfl, rfl⟩
  have G_decode_flag : FunD K "decode_flag" "decode_flag" (defArgs s_decode_flag) (defBody s_decode_flag) (defScope s_decode_flag) [.int 0] [] f_decode_flag _ := ⟨⟨_, _, _, _, _, _, _, _, _, _, rfl, l_decode_flag, c_decode_flag, .inr ⟨by simp, D_decode_flag, _, _, _, rfl, t_decode_flag, rfl, (.cons ⟨_, rfl⟩ .nil)⟩, .inl rfl⟩, k_decode_flag⟩
  have B1_decode_flag := G_decode_flag.binds1 (ps := ["block", "at"]) 1 0 (by simp) rfl fun _ _ _ _ _ _ _ us its hu hi => match us, its, hu, hi with | [_], [_], _, _ => ⟨_, rfl, rfl⟩
  have B2_decode_flag := G_decode_flag.binds1 (ps := ["block", "at"]) 2 1 (by simp) rfl fun _ _ _ _ _ _ _ us its hu hi => match us, its, hu, hi with | [_, _], [_], _, _ => ⟨_, rfl, rfl⟩
  have G_decode_value : FunD K "decode_value" "decode_value" (defArgs s_decode_value) (defBody s_decode_value) (defScope s_decode_value) [.int 0] [] f_decode_value _ := ⟨⟨_, _, _, _, _, _, _, _, _, _, rfl, l_decode_value, c_decode_value, .inr ⟨by simp, D_decode_value, _, _, _, rfl, t_decode_value, rfl, (.cons ⟨_, rfl⟩ .nil)⟩, .inl rfl⟩, k_decode_value⟩
  have B1_decode_value := G_decode_value.binds1 (ps := ["block", "at"]) 1 0 (by simp) rfl fun _ _ _ _ _ _ _ us its hu hi => match us, its, hu, hi with | [_], [_], _, _ => ⟨_, rfl, rfl⟩
  have B2_decode_value := G_decode_value.binds1 (ps := ["block", "at"]) 2 1 (by simp) rfl fun _ _ _ _ _ _ _ us its hu hi => match us, its, hu, hi with | [_, _], [_], _, _ => ⟨_, rfl, rfl⟩
  let T : Env K mg := {
    c_MeridianError := C_MeridianError,
    c_BadArgument := C_BadArgument,
    c_BadBytes := C_BadBytes,
    a_encode_number := f_encode_number,
    d_encode_number := _,
    F_encode_number := fun_mk (st := s_encode_number) l_encode_number c_encode_number k_encode_number,
    b_encode_number := (fun_mk (st := s_encode_number) l_encode_number c_encode_number k_encode_number).binds (ps := ["number"]) fun _ _ _ _ _ _ us hl => match us, hl with | [_], _ => rfl,
    g_encode_number := PySem.W.mg_of X G a_encode_number,
    a_decode_number := f_decode_number,
    d_decode_number := _,
    F_decode_number := G_decode_number,
    w1_decode_number := B1_decode_number.choose,
    v1_decode_number := B1_decode_number.choose_spec.1,
    b1_decode_number := B1_decode_number.choose_spec.2,
    w2_decode_number := B2_decode_number.choose,
    v2_decode_number := B2_decode_number.choose_spec.1,
    b2_decode_number := B2_decode_number.choose_spec.2,
    g_decode_number := PySem.W.mg_of X G a_decode_number,
    a_encode_signed := f_encode_signed,
    d_encode_signed := _,
    F_encode_signed := fun_mk (st := s_encode_signed) l_encode_signed c_encode_signed k_encode_signed,
    b_encode_signed := (fun_mk (st := s_encode_signed) l_encode_signed c_encode_signed k_encode_signed).binds (ps := ["number"]) fun _ _ _ _ _ _ us hl => match us, hl with | [_], _ => rfl,
    g_encode_signed := PySem.W.mg_of X G a_encode_signed,
    a_decode_signed := f_decode_signed,
    d_decode_signed := _,
    F_decode_signed := G_decode_signed,
    w1_decode_signed := B1_decode_signed.choose,
    v1_decode_signed := B1_decode_signed.choose_spec.1,
    b1_decode_signed := B1_decode_signed.choose_spec.2,
    w2_decode_signed := B2_decode_signed.choose,
    v2_decode_signed := B2_decode_signed.choose_spec.1,
    b2_decode_signed := B2_decode_signed.choose_spec.2,
    g_decode_signed := PySem.W.mg_of X G a_decode_signed,
    a_encode_flag := f_encode_flag,
    d_encode_flag := _,
    F_encode_flag := fun_mk (st := s_encode_flag) l_encode_flag c_encode_flag k_encode_flag,
    b_encode_flag := (fun_mk (st := s_encode_flag) l_encode_flag c_encode_flag k_encode_flag).binds (ps := ["flag"]) fun _ _ _ _ _ _ us hl => match us, hl with | [_], _ => rfl,
    g_encode_flag := PySem.W.mg_of X G a_encode_flag,
    a_decode_flag := f_decode_flag,
    d_decode_flag := _,
    F_decode_flag := G_decode_flag,
    w1_decode_flag := B1_decode_flag.choose,
    v1_decode_flag := B1_decode_flag.choose_spec.1,
    b1_decode_flag := B1_decode_flag.choose_spec.2,
    w2_decode_flag := B2_decode_flag.choose,
    v2_decode_flag := B2_decode_flag.choose_spec.1,
    b2_decode_flag := B2_decode_flag.choose_spec.2,
    g_decode_flag := PySem.W.mg_of X G a_decode_flag,
    a_encode_value := f_encode_value,
    d_encode_value := _,
    F_encode_value := fun_mk (st := s_encode_value) l_encode_value c_encode_value k_encode_value,
    b_encode_value := (fun_mk (st := s_encode_value) l_encode_value c_encode_value k_encode_value).binds (ps := ["value"]) fun _ _ _ _ _ _ us hl => match us, hl with | [_], _ => rfl,
    g_encode_value := PySem.W.mg_of X G a_encode_value,
    a_decode_value := f_decode_value,
    d_decode_value := _,
    F_decode_value := G_decode_value,
    w1_decode_value := B1_decode_value.choose,
    v1_decode_value := B1_decode_value.choose_spec.1,
    b1_decode_value := B1_decode_value.choose_spec.2,
    w2_decode_value := B2_decode_value.choose,
    v2_decode_value := B2_decode_value.choose_spec.1,
    b2_decode_value := B2_decode_value.choose_spec.2,
    g_decode_value := PySem.W.mg_of X G a_decode_value,
    a__check_index := f__check_index,
    d__check_index := _,
    F__check_index := fun_mk (st := s__check_index) l__check_index c__check_index k__check_index,
    b__check_index := (fun_mk (st := s__check_index) l__check_index c__check_index k__check_index).binds (ps := ["block", "at"]) fun _ _ _ _ _ _ us hl => match us, hl with | [_, _], _ => rfl,
    g__check_index := PySem.W.mg_of X G a__check_index,
    a__last_index := f__last_index,
    d__last_index := _,
    F__last_index := fun_mk (st := s__last_index) l__last_index c__last_index k__last_index,
    b__last_index := (fun_mk (st := s__last_index) l__last_index c__last_index k__last_index).binds (ps := ["block", "at"]) fun _ _ _ _ _ _ us hl => match us, hl with | [_, _], _ => rfl,
    g__last_index := PySem.W.mg_of X G a__last_index,
    a__law_cell := f__law_cell,
    d__law_cell := _,
    F__law_cell := fun_mk (st := s__law_cell) l__law_cell c__law_cell k__law_cell,
    b__law_cell := (fun_mk (st := s__law_cell) l__law_cell c__law_cell k__law_cell).binds (ps := ["script", "k"]) fun _ _ _ _ _ _ us hl => match us, hl with | [_, _], _ => rfl,
    g__law_cell := PySem.W.mg_of X G a__law_cell,
    a__law_is_int := f__law_is_int,
    d__law_is_int := _,
    F__law_is_int := fun_mk (st := s__law_is_int) l__law_is_int c__law_is_int k__law_is_int,
    b__law_is_int := (fun_mk (st := s__law_is_int) l__law_is_int c__law_is_int k__law_is_int).binds (ps := ["thing"]) fun _ _ _ _ _ _ us hl => match us, hl with | [_], _ => rfl,
    g__law_is_int := PySem.W.mg_of X G a__law_is_int,
    a__law_varint := f__law_varint,
    d__law_varint := _,
    F__law_varint := fun_mk (st := s__law_varint) l__law_varint c__law_varint k__law_varint,
    b__law_varint := (fun_mk (st := s__law_varint) l__law_varint c__law_varint k__law_varint).binds (ps := ["number"]) fun _ _ _ _ _ _ us hl => match us, hl with | [_], _ => rfl,
    g__law_varint := PySem.W.mg_of X G a__law_varint,
    a__law_signed := f__law_signed,
    d__law_signed := _,
    F__law_signed := fun_mk (st := s__law_signed) l__law_signed c__law_signed k__law_signed,
    b__law_signed := (fun_mk (st := s__law_signed) l__law_signed c__law_signed k__law_signed).binds (ps := ["number"]) fun _ _ _ _ _ _ us hl => match us, hl with | [_], _ => rfl,
    g__law_signed := PySem.W.mg_of X G a__law_signed,
    a__law_draws := f__law_draws,
    d__law_draws := _,
    F__law_draws := fun_mk (st := s__law_draws) l__law_draws c__law_draws k__law_draws,
    b__law_draws := (fun_mk (st := s__law_draws) l__law_draws c__law_draws k__law_draws).binds (ps := ["cell", "many", "limit"]) fun _ _ _ _ _ _ us hl => match us, hl with | [_, _, _], _ => rfl,
    g__law_draws := PySem.W.mg_of X G a__law_draws,
    a__law_block := f__law_block,
    d__law_block := _,
    F__law_block := fun_mk (st := s__law_block) l__law_block c__law_block k__law_block,
    b__law_block := (fun_mk (st := s__law_block) l__law_block c__law_block k__law_block).binds (ps := ["cell", "many"]) fun _ _ _ _ _ _ us hl => match us, hl with | [_, _], _ => rfl,
    g__law_block := PySem.W.mg_of X G a__law_block,
    a__law_number := f__law_number,
    d__law_number := _,
    F__law_number := fun_mk (st := s__law_number) l__law_number c__law_number k__law_number,
    b__law_number := (fun_mk (st := s__law_number) l__law_number c__law_number k__law_number).binds (ps := ["cell"]) fun _ _ _ _ _ _ us hl => match us, hl with | [_], _ => rfl,
    g__law_number := PySem.W.mg_of X G a__law_number,
    a__law_refused := f__law_refused,
    d__law_refused := _,
    F__law_refused := fun_mk (st := s__law_refused) l__law_refused c__law_refused k__law_refused,
    b__law_refused := (fun_mk (st := s__law_refused) l__law_refused c__law_refused k__law_refused).binds (ps := ["which", "block", "at"]) fun _ _ _ _ _ _ us hl => match us, hl with | [_, _, _], _ => rfl,
    g__law_refused := PySem.W.mg_of X G a__law_refused,
    a__law_back := f__law_back,
    d__law_back := _,
    F__law_back := fun_mk (st := s__law_back) l__law_back c__law_back k__law_back,
    b__law_back := (fun_mk (st := s__law_back) l__law_back c__law_back k__law_back).binds (ps := ["actual", "thing", "end"]) fun _ _ _ _ _ _ us hl => match us, hl with | [_, _, _], _ => rfl,
    g__law_back := PySem.W.mg_of X G a__law_back,
    a_law := f_law,
    d_law := _,
    F_law := fun_mk (st := s_law) l_law c_law k_law,
    b_law := (fun_mk (st := s_law) l_law c_law k_law).binds (ps := ["script"]) fun _ _ _ _ _ _ us hl => match us, hl with | [_], _ => rfl,
    e_MeridianError := ⟨PySem.W.mg_of X G mg_MeridianError, x_MeridianError, kc_MeridianError, bp_MeridianError, tp_MeridianError, ip_MeridianError, ⟨ga_MeridianError, gt_MeridianError, bp_MeridianError, hd_MeridianError, ca_MeridianError, cn, ct, mo_MeridianError⟩, kit_ty_sub ve_MeridianError (by decide +kernel)⟩,
    u_MeridianError_MeridianError := PySem.W.exm_ref bp_MeridianError hd_MeridianError tp_MeridianError u_MeridianError_MeridianError,
    q_MeridianError_MeridianError := kit_own u_MeridianError_MeridianError u_MeridianError_MeridianError ip_MeridianError tp_MeridianError,
    u_MeridianError_BadArgument := PySem.W.exm_ref bp_BadArgument hd_BadArgument tp_BadArgument u_MeridianError_BadArgument,
    q_MeridianError_BadArgument := kit_own u_MeridianError_BadArgument u_MeridianError_MeridianError ip_BadArgument tp_BadArgument,
    u_MeridianError_BadBytes := PySem.W.exm_ref bp_BadBytes hd_BadBytes tp_BadBytes u_MeridianError_BadBytes,
    q_MeridianError_BadBytes := kit_own u_MeridianError_BadBytes u_MeridianError_MeridianError ip_BadBytes tp_BadBytes,
    e_BadArgument := ⟨PySem.W.mg_of X G mg_BadArgument, x_BadArgument, kc_BadArgument, bp_BadArgument, tp_BadArgument, ip_BadArgument, ⟨ga_BadArgument, gt_BadArgument, bp_BadArgument, hd_BadArgument, ca_BadArgument, cn, ct, mo_BadArgument⟩, kit_ty_sub ve_BadArgument (by decide +kernel)⟩,
    u_BadArgument_MeridianError := PySem.W.exm_ref bp_MeridianError hd_MeridianError tp_MeridianError u_BadArgument_MeridianError,
    q_BadArgument_MeridianError := kit_own u_BadArgument_MeridianError u_BadArgument_BadArgument ip_MeridianError tp_MeridianError,
    u_BadArgument_BadArgument := PySem.W.exm_ref bp_BadArgument hd_BadArgument tp_BadArgument u_BadArgument_BadArgument,
    q_BadArgument_BadArgument := kit_own u_BadArgument_BadArgument u_BadArgument_BadArgument ip_BadArgument tp_BadArgument,
    u_BadArgument_BadBytes := PySem.W.exm_ref bp_BadBytes hd_BadBytes tp_BadBytes u_BadArgument_BadBytes,
    q_BadArgument_BadBytes := kit_own u_BadArgument_BadBytes u_BadArgument_BadArgument ip_BadBytes tp_BadBytes,
    e_BadBytes := ⟨PySem.W.mg_of X G mg_BadBytes, x_BadBytes, kc_BadBytes, bp_BadBytes, tp_BadBytes, ip_BadBytes, ⟨ga_BadBytes, gt_BadBytes, bp_BadBytes, hd_BadBytes, ca_BadBytes, cn, ct, mo_BadBytes⟩, kit_ty_sub ve_BadBytes (by decide +kernel)⟩,
    u_BadBytes_MeridianError := PySem.W.exm_ref bp_MeridianError hd_MeridianError tp_MeridianError u_BadBytes_MeridianError,
    q_BadBytes_MeridianError := kit_own u_BadBytes_MeridianError u_BadBytes_BadBytes ip_MeridianError tp_MeridianError,
    u_BadBytes_BadArgument := PySem.W.exm_ref bp_BadArgument hd_BadArgument tp_BadArgument u_BadBytes_BadArgument,
    q_BadBytes_BadArgument := kit_own u_BadBytes_BadArgument u_BadBytes_BadBytes ip_BadArgument tp_BadArgument,
    u_BadBytes_BadBytes := PySem.W.exm_ref bp_BadBytes hd_BadBytes tp_BadBytes u_BadBytes_BadBytes,
    q_BadBytes_BadBytes := kit_own u_BadBytes_BadBytes u_BadBytes_BadBytes ip_BadBytes tp_BadBytes,
    z_len := PySem.W.mg_none_of X G z_len,
    z_abs := PySem.W.mg_none_of X G z_abs,
    z_int := PySem.W.mg_none_of X G z_int,
    z_isinstance := PySem.W.mg_none_of X G z_isinstance,
    z_bool := PySem.W.mg_none_of X G z_bool,
    z_range := PySem.W.mg_none_of X G z_range,
    z_tuple := PySem.W.mg_none_of X G z_tuple }
  exact ⟨PySem.W.fnOf "law" "law" (defArgs s_law) (defBody s_law) (defScope s_law) .none kV_law dc_law pm_law an_law cd_law ct_law, fun s v => .of_eq rfl, fun base _ _ => ok_law T⟩
theorem walk {l : PySem.W.OpenLaw} {q : Program} {loose : List Str} {XP : (Str → Option Value) → Heap → Prop} {YP : World → Heap → Prop} {d : DefRec} {K : Params → PySem.W.Frag} (hn : l.most = some 63) (hdf : d.params.defaults = [])
    (hY : ∀ (w : World) (h : Heap), YP w h → (K w.params).In h)
    (F : ∀ (w : World) (mg : Str → Option Value) (fa : Addr) (h : Heap), (K w.params).In h → h.Ns mainGlobals mg → mg d.name = some (.ref fa) →
      ∃ fd : FuncData, (∀ (s : Shared) (u : Value), BindsTo s fd ⟨[u], []⟩ [("script", u)]) ∧ ∀ base : Heap, (K w.params).In base → base.Ns mainGlobals mg → FnOk l.prog w (K w.params) mg base CX0 9 fa fd ["script"] (spLaw (K w.params))) :
    PySem.W.WalkO q loose XP YP l.row.toRowW d [] (fun f vs => PySem.call f vs) :=
  L2.walk_of (n := 63) (k := 9) (x := "script") (CX := fun _ => CX0) (sp := fun w => spLaw (K w.params)) hn (by decide) hdf ⟨rfl, by decide, by decide⟩ hY F (fun _ _ a ns hl _ hS => ⟨a, ns, rfl, hS, hl, fun _ => rfl⟩) fun _ _ _ _ _ z => z
end Dv
open PySem PySem.W PyProof.Rows in
set_option maxRecDepth 100000 in
set_option maxHeartbeats 0 in
theorem PySem.Challenge.cw_meridian_k03_values_encoded_holds : PySem.Challenge.rw_meridian_k03_values_encoded.Holds := by
  w_on; o_law; k_head; (case hw => w_witness2)
  k_fill
  refine Dv.walk (l := PySem.Challenge.rw_meridian_k03_values_encoded) rfl rfl (fun w h Y => PySem.W.kIn_of Y) ?F
  case F =>
    intro w mg fa h KX G hmg
    refine' Dv.all_mk KX G hmg ?mg_MeridianError ?x_MeridianError ?kc_MeridianError ?bp_MeridianError ?tp_MeridianError ?ip_MeridianError ?ga_MeridianError ?gt_MeridianError ?hd_MeridianError ?ca_MeridianError ?mo_MeridianError ?ve_MeridianError ?u_MeridianError_MeridianError ?u_MeridianError_BadArgument ?u_MeridianError_BadBytes ?mg_BadArgument ?x_BadArgument ?kc_BadArgument ?bp_BadArgument ?tp_BadArgument ?ip_BadArgument ?ga_BadArgument ?gt_BadArgument ?hd_BadArgument ?ca_BadArgument ?mo_BadArgument ?ve_BadArgument ?u_BadArgument_MeridianError ?u_BadArgument_BadArgument ?u_BadArgument_BadBytes ?mg_BadBytes ?x_BadBytes ?kc_BadBytes ?bp_BadBytes ?tp_BadBytes ?ip_BadBytes ?ga_BadBytes ?gt_BadBytes ?hd_BadBytes ?ca_BadBytes ?mo_BadBytes ?ve_BadBytes ?u_BadBytes_MeridianError ?u_BadBytes_BadArgument ?u_BadBytes_BadBytes ?cn ?ct ?a_encode_number ?l_encode_number ?c_encode_number ?k_encode_number ?a_decode_number ?l_decode_number ?t_decode_number ?c_decode_number ?k_decode_number ?a_encode_signed ?l_encode_signed ?c_encode_signed ?k_encode_signed ?a_decode_signed ?l_decode_signed ?t_decode_signed ?c_decode_signed ?k_decode_signed ?a_encode_flag ?l_encode_flag ?c_encode_flag ?k_encode_flag ?a_decode_flag ?l_decode_flag ?t_decode_flag ?c_decode_flag ?k_decode_flag ?a_encode_value ?l_encode_value ?c_encode_value ?k_encode_value ?a_decode_value ?l_decode_value ?t_decode_value ?c_decode_value ?k_decode_value ?a__check_index ?l__check_index ?c__check_index ?k__check_index ?a__last_index ?l__last_index ?c__last_index ?k__last_index ?a__law_cell ?l__law_cell ?c__law_cell ?k__law_cell ?a__law_is_int ?l__law_is_int ?c__law_is_int ?k__law_is_int ?a__law_varint ?l__law_varint ?c__law_varint ?k__law_varint ?a__law_signed ?l__law_signed ?c__law_signed ?k__law_signed ?a__law_draws ?l__law_draws ?c__law_draws ?k__law_draws ?a__law_block ?l__law_block ?c__law_block ?k__law_block ?a__law_number ?l__law_number ?c__law_number ?k__law_number ?a__law_refused ?l__law_refused ?c__law_refused ?k__law_refused ?a__law_back ?l__law_back ?c__law_back ?k__law_back ?a_law ?l_law ?c_law ?k_law ?z_len ?z_abs ?z_int ?z_isinstance ?z_bool ?z_range ?z_tuple
    (case mg_MeridianError => k_is)
    (case mg_BadArgument => k_is)
    (case mg_BadBytes => k_is)
    (case a_encode_number => k_is)
    (case a_decode_number => k_is)
    (case a_encode_signed => k_is)
    (case a_decode_signed => k_is)
    (case a_encode_flag => k_is)
    (case a_decode_flag => k_is)
    (case a_encode_value => k_is)
    (case a_decode_value => k_is)
    (case a__check_index => k_is)
    (case a__last_index => k_is)
    (case a__law_cell => k_is)
    (case a__law_is_int => k_is)
    (case a__law_varint => k_is)
    (case a__law_signed => k_is)
    (case a__law_draws => k_is)
    (case a__law_block => k_is)
    (case a__law_number => k_is)
    (case a__law_refused => k_is)
    (case a__law_back => k_is)
    (case a_law => k_is)
    (case x_MeridianError => k_exc)
    (case kc_MeridianError => k_is)
    (case bp_MeridianError => k_is)
    (case tp_MeridianError => k_is)
    (case ip_MeridianError => k_is)
    (case ga_MeridianError => k_is)
    (case gt_MeridianError => k_is)
    (case hd_MeridianError => k_is)
    (case ca_MeridianError => k_is)
    (case mo_MeridianError => k_is)
    (case ve_MeridianError => k_is)
    (case u_MeridianError_MeridianError => k_is)
    (case u_MeridianError_BadArgument => k_is)
    (case u_MeridianError_BadBytes => k_is)
    (case x_BadArgument => k_exc)
    (case kc_BadArgument => k_is)
    (case bp_BadArgument => k_is)
    (case tp_BadArgument => k_is)
    (case ip_BadArgument => k_is)
    (case ga_BadArgument => k_is)
    (case gt_BadArgument => k_is)
    (case hd_BadArgument => k_is)
    (case ca_BadArgument => k_is)
    (case mo_BadArgument => k_is)
    (case ve_BadArgument => k_is)
    (case u_BadArgument_MeridianError => k_is)
    (case u_BadArgument_BadArgument => k_is)
    (case u_BadArgument_BadBytes => k_is)
    (case x_BadBytes => k_exc)
    (case kc_BadBytes => k_is)
    (case bp_BadBytes => k_is)
    (case tp_BadBytes => k_is)
    (case ip_BadBytes => k_is)
    (case ga_BadBytes => k_is)
    (case gt_BadBytes => k_is)
    (case hd_BadBytes => k_is)
    (case ca_BadBytes => k_is)
    (case mo_BadBytes => k_is)
    (case ve_BadBytes => k_is)
    (case u_BadBytes_MeridianError => k_is)
    (case u_BadBytes_BadArgument => k_is)
    (case u_BadBytes_BadBytes => k_is)
    (case cn => k_is)
    (case ct => k_is)
    (case l_encode_number => k_is)
    (case c_encode_number => k_is)
    (case k_encode_number => k_is)
    (case l_decode_number => k_is)
    (case t_decode_number => k_is)
    (case c_decode_number => k_is)
    (case k_decode_number => k_is)
    (case l_encode_signed => k_is)
    (case c_encode_signed => k_is)
    (case k_encode_signed => k_is)
    (case l_decode_signed => k_is)
    (case t_decode_signed => k_is)
    (case c_decode_signed => k_is)
    (case k_decode_signed => k_is)
    (case l_encode_flag => k_is)
    (case c_encode_flag => k_is)
    (case k_encode_flag => k_is)
    (case l_decode_flag => k_is)
    (case t_decode_flag => k_is)
    (case c_decode_flag => k_is)
    (case k_decode_flag => k_is)
    (case l_encode_value => k_is)
    (case c_encode_value => k_is)
    (case k_encode_value => k_is)
    (case l_decode_value => k_is)
    (case t_decode_value => k_is)
    (case c_decode_value => k_is)
    (case k_decode_value => k_is)
    (case l__check_index => k_is)
    (case c__check_index => k_is)
    (case k__check_index => k_is)
    (case l__last_index => k_is)
    (case c__last_index => k_is)
    (case k__last_index => k_is)
    (case l__law_cell => k_is)
    (case c__law_cell => k_is)
    (case k__law_cell => k_is)
    (case l__law_is_int => k_is)
    (case c__law_is_int => k_is)
    (case k__law_is_int => k_is)
    (case l__law_varint => k_is)
    (case c__law_varint => k_is)
    (case k__law_varint => k_is)
    (case l__law_signed => k_is)
    (case c__law_signed => k_is)
    (case k__law_signed => k_is)
    (case l__law_draws => k_is)
    (case c__law_draws => k_is)
    (case k__law_draws => k_is)
    (case l__law_block => k_is)
    (case c__law_block => k_is)
    (case k__law_block => k_is)
    (case l__law_number => k_is)
    (case c__law_number => k_is)
    (case k__law_number => k_is)
    (case l__law_refused => k_is)
    (case c__law_refused => k_is)
    (case k__law_refused => k_is)
    (case l__law_back => k_is)
    (case c__law_back => k_is)
    (case k__law_back => k_is)
    (case l_law => k_is)
    (case c_law => k_is)
    (case k_law => k_is)
    (case z_len => k_is)
    (case z_abs => k_is)
    (case z_int => k_is)
    (case z_isinstance => k_is)
    (case z_bool => k_is)
    (case z_range => k_is)
    (case z_tuple => k_is)
