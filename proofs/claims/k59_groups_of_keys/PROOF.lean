import PyProof.Rows.All
import Wide.All
import OpenK.AllK
import Wide.FinOn
import HandS.ForExc
import HandS.ForMost
import HandS.IsInst
import HandS.ExcIs
import HandS.Wide
import HandS.CallSlots
import HandS.Property
import HandS.Defaults
import HandS.MakeKwOnly
import HandS.TupAny
import HandS.LawCells
import HandS.Text
import HandS.Iter
import PySem.Challenge.RW_meridian_k59_groups_of_keys
set_option Elab.async false
set_option linter.all false
set_option maxRecDepth 100000
set_option maxHeartbeats 4000000
namespace Dv
open PySem PySem.Spec PyProof.Rows L2
def top (i : Nat) : Stmt := PySem.Challenge.pw_meridian_k59_groups_of_keys.main.body.getD i (.Pass ⟨0, 0, 0, 0⟩)
abbrev s_encode_number : Stmt := (top 4)
theorem sc_encode_number : FnScope ["number", "block"] ["number"] (defScope s_encode_number) := ⟨rfl, rfl, rfl, by decide +kernel, rfl, by decide +kernel, by decide +kernel⟩
abbrev s_encode_text : Stmt := (top 7)
theorem sc_encode_text : FnScope ["text", "block", "character", "code"] ["text"] (defScope s_encode_text) := ⟨rfl, rfl, rfl, by decide +kernel, rfl, by decide +kernel, by decide +kernel⟩
abbrev s_encode_texts : Stmt := (top 8)
theorem sc_encode_texts : FnScope ["texts", "block", "text"] ["texts"] (defScope s_encode_texts) := ⟨rfl, rfl, rfl, by decide +kernel, rfl, by decide +kernel, by decide +kernel⟩
abbrev s_encode_keys : Stmt := (top 10)
theorem sc_encode_keys : FnScope ["keys"] ["keys"] (defScope s_encode_keys) := ⟨rfl, rfl, rfl, by decide +kernel, rfl, by decide +kernel, by decide +kernel⟩
abbrev s__are_ascending : Stmt := (top 11)
theorem sc__are_ascending : FnScope ["keys", "previous", "key"] ["keys"] (defScope s__are_ascending) := ⟨rfl, rfl, rfl, by decide +kernel, rfl, by decide +kernel, by decide +kernel⟩
abbrev s_check_cuts : Stmt := (top 13)
theorem sc_check_cuts : FnScope ["cuts"] ["cuts"] (defScope s_check_cuts) := ⟨rfl, rfl, rfl, by decide +kernel, rfl, by decide +kernel, by decide +kernel⟩
abbrev s_group_of_key : Stmt := (top 14)
theorem sc_group_of_key : FnScope ["cuts", "key", "cut"] ["cuts", "key"] (defScope s_group_of_key) := ⟨rfl, rfl, rfl, by decide +kernel, rfl, by decide +kernel, by decide +kernel⟩
abbrev s__law_cell : Stmt := (top 16)
theorem sc__law_cell : FnScope ["script", "k"] ["script", "k"] (defScope s__law_cell) := ⟨rfl, rfl, rfl, by decide +kernel, rfl, by decide +kernel, by decide +kernel⟩
abbrev s__law_is_int : Stmt := (top 17)
theorem sc__law_is_int : FnScope ["thing"] ["thing"] (defScope s__law_is_int) := ⟨rfl, rfl, rfl, by decide +kernel, rfl, by decide +kernel, by decide +kernel⟩
abbrev s__law_draws : Stmt := (top 18)
theorem sc__law_draws : FnScope ["cell", "many", "limit", "out", "k", "mixed"] ["cell", "many", "limit"] (defScope s__law_draws) := ⟨rfl, rfl, rfl, by decide +kernel, rfl, by decide +kernel, by decide +kernel⟩
abbrev s__law_text : Stmt := (top 19)
theorem sc__law_text : FnScope ["cell", "many", "code"] ["cell", "many"] (defScope s__law_text) := ⟨rfl, rfl, rfl, by decide +kernel, rfl, by decide +kernel, by decide +kernel⟩
abbrev s__law_refused : Stmt := (top 20)
theorem sc__law_refused : FnScope ["fences"] ["fences"] (defScope s__law_refused) := ⟨rfl, rfl, rfl, by decide +kernel, rfl, by decide +kernel, by decide +kernel⟩
abbrev s_law : Stmt := (top 21)
theorem sc_law : FnScope ["script", "fences", "k", "key", "keys", "fence", "given", "actual", "at"] ["script"] (defScope s_law) := ⟨rfl, rfl, rfl, by decide +kernel, rfl, by decide +kernel, by decide +kernel⟩
theorem kit_own {K : PySem.W.Frag} {C E : Addr} {b : Bool} (h : PySem.W.subIn K (.ref C) (.ref E) = some b) (hs : PySem.W.subIn K (.ref C) (.ref C) = some true) (hc : PySem.W.isClsIn K E = true) (ht : PySem.W.typeIn K (.ref E) = some (.type "type")) :
    PySem.W.kitOne K (.ref C) (.ref E) = some b := by
  unfold PySem.W.kitOne
  by_cases e : (Value.ref C == Value.ref E) = true
  · rw [if_pos e]
    have e' : Value.ref C = Value.ref E := by simpa using e
    rw [← e', hs] at h
    exact h
  · rw [if_neg e]
    show (if ((PySem.W.clsIn K E).isSome && PySem.W.typeIn K (.ref E) == some (.type "type")) = true then PySem.W.subIn K (.ref C) (.ref E) else none) = some b
    have hc' : (PySem.W.clsIn K E).isSome = true := hc
    rw [hc', ht, if_pos (by rfl)]
    exact h
theorem kit_ty_sub {K : PySem.W.Frag} {C : Addr} {T : String} {b : Bool} (h : PySem.W.subIn K (.ref C) (.type T) = some b) (hm : PySem.W.kitMeta T = true) : PySem.W.kitOne K (.ref C) (.type T) = some b := by
  unfold PySem.W.kitOne
  rw [if_neg (by simp)]
  show (if PySem.W.kitMeta T = true then PySem.W.subIn K (.ref C) (.type T) else none) = some b
  rw [if_pos hm]
  exact h
/-- isinstance(e, c), isinstance(e, (c1, ..)): e the exception that the suite holds, of whatever class -/
def rIsG (K : PySem.W.Frag) (cls : Value) (d : Option Addr) (a : Addr) : List V → Hp → VK → Prop := fun xs H Q => ∃ (D : Addr) (b : Bool), cls = .ref D ∧ d = none ∧ ExcC K D ∧
  ((∃ (c : V) (cv : Value), xs = [.ref a, c] ∧ ClsV c cv ∧ PySem.W.kitOne K (.ref D) cv = some b ∧ Q (.bl b) H) ∨
   ∃ (tp : Addr) (cs : List V) (us : List Value), xs = [.ref a, .ref tp] ∧ H tp = some (.tup cs) ∧ Paired ClsV cs us ∧ PySem.W.kitAny K (.ref D) us = some b ∧ Q (.bl b) H)
theorem call_isG {X : Cx} {a : Addr} {cls : Value} {d : Option Addr} {oe : Obj} {pn : List (Addr × Obj)} (hz : Zc cls d oe) (hf : ∃ vs, oe.data = .fields vs) : CallR (X.suite a ((a, oe) :: pn)) (.builtin "isinstance") (rIsG X.K cls d a) := by
  intro pins s σ H xs us Q I r h
  obtain ⟨D, b, rfl, rfl, C, h⟩ := h
  rcases h with ⟨c, cv, rfl, hcv, e, q⟩ | ⟨tp, cs, ws, rfl, hT, k, e, q⟩
  · exact call_isE C hz hf pins s σ H _ us Q I r ⟨c, cv, b, rfl, fun u ru => hcv.eq ru, e, q⟩
  · obtain ⟨u1, u2, rfl, r1, r2⟩ := vals2 r
    cases (show u2 = Value.ref tp from r2)
    cases (show u1 = Value.ref a from r1)
    obtain ⟨hget, _⟩ := I.pin (a, oe) (List.mem_append.mpr (.inl List.mem_cons_self))
    obtain ⟨vs, hv⟩ := hf
    have J : PySem.W.InstAt s.heap a oe D none := by
      obtain ⟨oc, od, oda, osl⟩ := oe
      obtain ⟨h1, h2⟩ := hz
      dsimp only at h1 h2 hv
      subst h1 h2 hv
      exact ⟨hget, rfl, rfl, trivial⟩
    obtain ⟨_, its, rv, o, h1, h2, n, h3⟩ := (show ObjOk X.prog X.w H s.heap tp (.tup cs) from I.hok tp _ hT)
    have e3 := ClsV.all k rv
    subst e3
    obtain ⟨oc, od, dt, sl⟩ := o
    simp only at h2 h3
    subst h2 h3
    exact PySem.W.kia_tup (PySem.W.handS_kitx_exc C.hg C.hk C.hs C.hd C.ha C.hn C.ht C.hm) I.kIn J h1 e (fun z => nomatch z) fun tk => ⟨.bl b, H, I.kept (t' := tk) fun _ _ z => z, rfl, q⟩
/-- the room that == of data wants -/
theorem hu64_of {A : Around} {k : Nat} (hr : Room k A) : A.units + 64 < cLine := Nat.lt_of_le_of_lt (Nat.le_refl _) hr.units
theorem same_new {H : Hp} {p : Addr} {o : HO} (h : H p = none) : Same H (upd H p o) := fun b x e => by
  rw [upd_ne (ne_of_none e h)]
  exact e
/-- an object unknown before may change -/
theorem same_mut {H H1 : Hp} {p : Addr} {o : HO} (s : Same H H1) (h : H p = none) : Same H (upd H1 p o) := fun b x e => by
  rw [upd_ne (ne_of_none e h)]
  exact s b x e
theorem sql_new {K : PySem.W.Frag} {H : Hp} {p : Addr} {xs : List V} : SqL K (upd H p (.lst xs)) p xs := SqL.of upd_same
theorem same_dp {K : PySem.W.Frag} {H H' : Hp} (s : Same H H') : ∀ (d : PyData) (v : V), Dp K H v d → Dp K H' v d := by
  intro d v h
  exact Dp.rec (motive_1 := fun v d _ => Dp K H' v d) (motive_2 := fun vs ds _ => DpAll K H' vs ds) .non (fun b => .bl b) (fun i => .int i) (fun x => .str x)
    (fun h1 _ ih => .lst (s.seq h1) ih) (fun h1 _ ih => .tup (by rcases h1 with h1 | h1
                                                                 · rcases h1 with h1 | ⟨o, h1⟩
                                                                   · exact .inl (.inl (s _ _ h1))
                                                                   · exact .inl (.inr ⟨o, s _ _ h1⟩)
                                                                 · exact .inr h1) ih) .nil (fun _ _ h1 h2 => .cons h1 h2) h
/-! lists of ints as data -/
def dInts (ns : List Int) : PyData := .list (ns.map PyData.int)
theorem dp_all_ints {K : PySem.W.Frag} {H : Hp} : ∀ ns : List Int, DpAll K H (ns.map V.int) (ns.map PyData.int)
  | [] => .nil
  | n :: r => .cons (.int n) (dp_all_ints r)
theorem dp_ints {K : PySem.W.Frag} {H : Hp} {a : Addr} {ns : List Int} (h : SqL K H a (ns.map V.int)) : Dp K H (.ref a) (dInts ns) := .lst h (dp_all_ints ns)
theorem eqv_ints : ∀ ns ms : List Int, PyData.eqvAll (ns.map PyData.int) (ms.map PyData.int) = decide (ns = ms)
  | [], [] => rfl
  | [], _ :: _ => rfl
  | _ :: _, [] => rfl
  | n :: r, m :: t => by
    show (PyData.eqv (.int n) (.int m) && PyData.eqvAll (r.map PyData.int) (t.map PyData.int)) = _
    rw [eqv_ints r t]
    show ((n == m) && decide (r = t)) = _
    by_cases h : n = m <;> by_cases h2 : r = t <;> simp [h, h2]
theorem eqv_dInts (ns ms : List Int) : PyData.eqv (dInts ns) (dInts ms) = decide (ns = ms) := eqv_ints ns ms
theorem canLay_ints : ∀ ns : List Int, (PyData.list (ns.map PyData.int)).canLay0 = true → True := fun _ _ => trivial
theorem ifT {c : Bool} {A B : Prop} (hc : c = true) (h : A) : if c = true then A else B := by
  rw [if_pos hc]
  exact h
theorem ifF {c : Bool} {A B : Prop} (hc : c = false) (h : B) : if c = true then A else B := by
  rw [hc, if_neg Bool.false_ne_true]
  exact h
/-- both ways of an if over a decided comparison -/
theorem iteD {p : Prop} [Decidable p] {A B : Prop} (h1 : p → A) (h2 : ¬ p → B) : if decide p = true then A else B := by
  by_cases h : p
  · rw [if_pos (decide_eq_true h)]
    exact h1 h
  · rw [if_neg (by simpa using h)]
    exact h2 h
theorem iteN {p : Prop} [Decidable p] {A B : Prop} (h1 : ¬ p → A) (h2 : p → B) : if (!decide p) = true then A else B := by
  by_cases h : p
  · rw [if_neg (by simpa using h)]
    exact h2 h
  · rw [if_pos (by simpa using h)]
    exact h1 h
theorem yes_if {σ : L2.St} {H : Hp} {A B : Hp → Prop} (h : A H) : tYes σ H (fun b H3 => if b = true then A H3 else B H3) := by
  show (if true = true then A H else B H)
  rw [if_pos rfl]
  exact h
abbrev Li (H : Hp) (p : Addr) (ns : List Int) : Prop := H p = some (.lst (ns.map V.int))
theorem szl {n : Nat} (h : n ≤ 1000000) : n < sizeLine := Nat.lt_of_le_of_lt h (by decide)
theorem szle {n : Nat} (h : n ≤ 1000000) : n ≤ sizeLine := Nat.le_of_lt (szl h)
theorem mem_int {ns : List Int} {i : Nat} {x : V} (hx : (ns.map V.int)[i]? = some x) : ∃ n, ns[i]? = some n ∧ x = V.int n := by
  rw [List.getElem?_map] at hx
  cases e : ns[i]? with
  | none => rw [e] at hx; cases hx
  | some u => rw [e] at hx; exact ⟨u, rfl, (Option.some.inj hx).symm⟩
theorem li_push {H : Hp} {p : Addr} {ns : List Int} {n : Int} : Li (upd H p (.lst (ns.map V.int ++ [V.int n]))) p (ns ++ [n]) := by
  show upd _ _ _ _ = _
  rw [upd_same, List.map_append]
  rfl
theorem take_succ {α : Type} {l : List α} {i : Nat} {x : α} (h : l[i]? = some x) : l.take (i + 1) = l.take i ++ [x] := by
  rw [List.take_add_one, h]
  rfl
/-! slices of lists -/
theorem cutV_map {α : Type} (f : α → V) (xs : List α) (lo hi : Option Int) : cutV (xs.map f) lo hi = ((xs.drop (HT.sIx xs.length 0 lo)).take (HT.sIx xs.length xs.length hi - HT.sIx xs.length 0 lo)).map f := by
  unfold cutV
  rw [List.length_map, List.map_take, List.map_drop]
theorem cut_to (xs : List V) (k : Nat) : cutV xs none (some (k : Int)) = xs.take k := by
  unfold cutV
  rw [HT.sIx_none, HT.sIx_nat, List.drop_zero, Nat.sub_zero]
  by_cases h : k ≤ xs.length
  · rw [Nat.min_eq_left h]
  · rw [Nat.min_eq_right (by omega), List.take_of_length_le (Nat.le_refl _), List.take_of_length_le (by omega)]
theorem cut_from (xs : List V) (k : Nat) : cutV xs (some (k : Int)) none = xs.drop k := by
  unfold cutV
  rw [HT.sIx_none, HT.sIx_nat]
  by_cases h : k ≤ xs.length
  · rw [Nat.min_eq_left h]
    exact List.take_of_length_le (by rw [List.length_drop]; exact Nat.le_refl _)
  · rw [Nat.min_eq_right (by omega), List.drop_of_length_le (by omega), List.take_nil, List.drop_of_length_le (by omega)]
theorem cut_fromto (xs : List V) (i j : Nat) : cutV xs (some (i : Int)) (some (j : Int)) = (xs.drop i).take (j - i) := by
  unfold cutV
  rw [HT.sIx_nat, HT.sIx_nat]
  by_cases h : i ≤ xs.length
  · rw [Nat.min_eq_left h]
    by_cases h2 : j ≤ xs.length
    · rw [Nat.min_eq_left h2]
    · rw [Nat.min_eq_right (by omega), List.take_of_length_le (by rw [List.length_drop]; exact Nat.le_refl _), List.take_of_length_le (by rw [List.length_drop]; omega)]
  · rw [show xs.drop (min i xs.length) = [] from List.drop_of_length_le (by omega), List.take_nil, List.drop_of_length_le (by omega), List.take_nil]
theorem sIx_neg (n d k : Nat) (h : 0 < k) : HT.sIx n d (some (-(k : Int))) = n - k := by
  show (if -(k : Int) < 0 then (-(k : Int) + (n : Int)).toNat else _) = _
  rw [if_pos (by omega)]
  omega
theorem cut_ton (xs : List V) (k : Nat) (h : 0 < k) : cutV xs none (some (-(k : Int))) = xs.take (xs.length - k) := by
  unfold cutV
  rw [HT.sIx_none, sIx_neg _ _ _ h, List.drop_zero, Nat.sub_zero]
theorem cut_fromn (xs : List V) (k : Nat) (h : 0 < k) : cutV xs (some (-(k : Int))) none = xs.drop (xs.length - k) := by
  unfold cutV
  rw [HT.sIx_none, sIx_neg _ _ _ h]
  exact List.take_of_length_le (by rw [List.length_drop]; exact Nat.le_refl _)

/-! own rules: methods and makings whose errors depend on the slots (for a try), keywords, an own __contains__ -/
section
variable {X : Cx} {CX : CXT} {k n : Nat} {C f : Addr} {fd : FuncData} {ps ks : List Str} {sp : Sp} {E : L2.St → XK} {dvs : List V} {ds : List Value} {o e : Expr} {es : List Expr} {kws : List Keyword} {m x : Str} {p apos pos : Pos} {ta : TE} {t tk : TA}
  {g : List Value → List Value → List Value} {gV : List V → List V → List V}
theorem run_at {pins : List (Addr × Obj)} {σ : L2.St} {H : Hp} {s : Shared} {Q : VK} {E : XK} {us0 us : List Value} {kw : List (Str × Value)} {vs : List V} (F : FnOk X.prog X.w X.K X.mg X.base CX k f fd ps sp) (hr : Room k X.A) (hx : PassesAt CX X σ E)
    (I : Inv X pins σ H s) (hb : BindsTo s fd ⟨us0, kw⟩ (ps.zip us)) (r : Vals vs us) (h : sp vs H Q E) : wpAny (model X.prog X.w) X.A (call (.ref f) us0 kw) (EP X pins σ Q) X.xe s := by
  refine wpAny_call (codeAny_mono (F.run X.A X.stack s H ⟨us0, kw⟩ us vs Q E hr I.env0 hb r h) fun r s' hq => ?_)
  cases r with
  | error er => exact hx pins H s er s' I hq
  | ok fl => cases fl with
    | ret u => exact I.after hq
    | next => exact hq.elim
    | brk => exact hq.elim
    | cont => exact hq.elim
/-- o.m(e, .., k = v, ..) -/
def tMA (C : Addr) (m : Str) (n l : Nat) (sp : Sp) (gV : List V → List V → List V) (E : L2.St → XK) (ta : TE) (t tk : TA) : TE := fun σ H Q => ta σ H fun x H1 => ∃ a dx fs, x = .ref a ∧ H1 a = some (.ins C dx fs) ∧ fs.lookup m = none ∧
  t σ H1 fun vs H2 => tk σ H2 fun zs H3 => vs.length = n ∧ zs.length = l ∧ sp (gV (x :: vs) zs) H3 Q (E σ)
theorem pe_mK {pl : Sem Bool} (he : PE X o ta) (c : Cls X.K C) (hm : Meth X.K C m f) (F : FnOk X.prog X.w X.K X.mg X.base CX k f fd ps sp) (hr : Room k X.A) (hb : KBn X.K fd ps (n + 1) ks g gV) (hx : ∀ σ, PassesAt CX X σ (E σ)) (ha : PA X (e :: es) t) (hkw : PK X kws tk)
    (hall : (backToKw pos (keywordEach kws X.env)).all (·.1.isSome) = true := by rfl) (hks : (backToKw pos (keywordEach kws X.env)).filterMap (·.1) = ks := by rfl)
    (hst : starEach (e :: es) X.env = (false, eval e X.env) :: starEach es X.env := by rfl) (hpl : ((backTo pos (starEach (e :: es) X.env)).any (·.1) || (backToKw pos (keywordEach kws X.env)).any (·.1.isNone)) = false := by rfl)
    (ht : eval (.Call (.Attribute o m apos) (e :: es) kws pos) X.env = (do
      let ov ← eval o X.env
      standAt apos.atName
      let (f, first) ← holding [ov] (getMethod ov m pl)
      callWith pos f first (backTo pos (starEach (e :: es) X.env)) (backToKw pos (keywordEach kws X.env))) := by rfl) :
    PE X (.Call (.Attribute o m apos) (e :: es) kws pos) (tMA C m n ks.length sp gV E ta t tk) := by
  refine ⟨fun pins s σ H Q I h => PySem.W.methodCall_KW (pl := pl) (thn (he.run pins s σ H _ I h) fun u s1 ⟨x, H1, I1, rx, a, dx, fs, ex, ea, l, q⟩ => ?_) ht⟩
  subst ex
  obtain rfl : u = Value.ref a := rx
  refine getmeth_ok I1 ea c hm l (PySem.W.callWith_KW (first := [.ref a]) (h₀ := X.base) I.ok.mod.kin hm.kp hall (thn (ha.run pos pins s1 σ H1 _ I1 q) fun us s2 ⟨vs, H2, I2, r, q2⟩ => ?_) hpl hst)
  refine thn (hkw.run pos pins s2 σ H2 _ I2 q2) fun ws s3 ⟨zs, H3, I3, rz, l1, l2, q3⟩ => ⟨I3.kIn, ?_⟩
  rw [hks]
  have r1 : Vals (V.ref a :: vs) (Value.ref a :: us) := .cons rfl r
  exact run_at F hr (hx σ) I3 (hb.to s3 (Value.ref a :: us) ws I3.kIn (by rw [List.length_cons, ← r.length, l1]) (rz.length.symm.trans l2)) (hb.rel r1 rz) q3
theorem pe_mK0 {pl : Sem Bool} (he : PE X o ta) (c : Cls X.K C) (hm : Meth X.K C m f) (F : FnOk X.prog X.w X.K X.mg X.base CX k f fd ps sp) (hr : Room k X.A) (hb : KBn X.K fd ps 1 ks g gV) (hx : ∀ σ, PassesAt CX X σ (E σ)) (hkw : PK X kws tk)
    (hall : (backToKw pos (keywordEach kws X.env)).all (·.1.isSome) = true := by rfl) (hks : (backToKw pos (keywordEach kws X.env)).filterMap (·.1) = ks := by rfl)
    (hpl : ((backTo pos (starEach [] X.env)).any (·.1) || (backToKw pos (keywordEach kws X.env)).any (·.1.isNone)) = false := by rfl)
    (ht : eval (.Call (.Attribute o m apos) [] kws pos) X.env = (do
      let ov ← eval o X.env
      standAt apos.atName
      let (f, first) ← holding [ov] (getMethod ov m pl)
      callWith pos f first (backTo pos (starEach [] X.env)) (backToKw pos (keywordEach kws X.env))) := by rfl) :
    PE X (.Call (.Attribute o m apos) [] kws pos) (tMA C m 0 ks.length sp gV E ta tNil tk) := by
  refine ⟨fun pins s σ H Q I h => PySem.W.methodCall_KW (pl := pl) (thn (he.run pins s σ H _ I h) fun u s1 ⟨x, H1, I1, rx, a, dx, fs, ex, ea, l, q⟩ => ?_) ht⟩
  subst ex
  obtain rfl : u = Value.ref a := rx
  refine getmeth_ok I1 ea c hm l (PySem.W.callWith_KW0 (first := [.ref a]) (h₀ := X.base) I.ok.mod.kin hm.kp hall (thn (hkw.run pos pins s1 σ H1 _ I1 q) fun ws s3 ⟨zs, H3, I3, rz, l1, l2, q3⟩ => ⟨I3.kIn, ?_⟩) hpl)
  rw [hks]
  have r1 : Vals ([V.ref a]) ([Value.ref a]) := .cons rfl .nil
  exact run_at F hr (hx σ) I3 (hb.to s3 [Value.ref a] ws I3.kIn rfl (rz.length.symm.trans l2)) (hb.rel r1 rz) q3
/-- o.m(e, ..), the wish of errors by the slots -/
def tMS (C : Addr) (m : Str) (sp : Sp) (dvs : List V) (E : L2.St → XK) (ta : TE) (t : TA) : TE := fun σ H Q => ta σ H fun x H1 => ∃ a dx fs, x = .ref a ∧ H1 a = some (.ins C dx fs) ∧ fs.lookup m = none ∧ t σ H1 fun vs H2 => sp (x :: (vs ++ dvs)) H2 Q (E σ)
theorem pe_mS {pl : Sem Bool} (he : PE X o ta) (c : Cls X.K C) (hm : Meth X.K C m f) (F : FnOk X.prog X.w X.K X.mg X.base CX k f fd ps sp) (hr : Room k X.A) (hb : Binds X.K fd ps ds) (hd : Vals dvs ds) (hx : ∀ σ, PassesAt CX X σ (E σ)) (ha : PA X (e :: es) t)
    (hst : starEach (e :: es) X.env = (false, eval e X.env) :: starEach es X.env := by rfl) (hpl : (backTo pos (starEach es X.env)).any (·.1) = false := by rfl)
    (ht : eval (.Call (.Attribute o m apos) (e :: es) [] pos) X.env = (do
      let ov ← eval o X.env
      standAt apos.atName
      let (f, first) ← holding [ov] (getMethod ov m pl)
      callWith pos f first (backTo pos (starEach (e :: es) X.env)) (backToKw pos (keywordEach [] X.env))) := by rfl) :
    PE X (.Call (.Attribute o m apos) (e :: es) [] pos) (tMS C m sp dvs E ta t) := by
  refine ⟨fun pins s σ H Q I h => PySem.W.methodCall_KW (pl := pl) (thn (he.run pins s σ H _ I h) fun u s1 ⟨x, H1, I1, rx, a, dx, fs, ex, ea, l, q⟩ => ?_) ht⟩
  subst ex
  obtain rfl : u = Value.ref a := rx
  refine getmeth_ok I1 ea c hm l (PySem.W.callWith_K (first := [.ref a]) (h₀ := X.base) I.ok.mod.kin hm.kp (thn (ha.run pos pins s1 σ H1 _ I1 q) fun us s2 ⟨vs, H2, I2, r, q2⟩ => ⟨I2.kIn, ?_⟩) hst hpl)
  have r2 : Vals (V.ref a :: (vs ++ dvs)) (Value.ref a :: us ++ ds) := .cons rfl (r.append hd)
  have hl : (Value.ref a :: us ++ ds).length = ps.length := by rw [← r2.length]; exact F.len _ _ _ _ q2
  exact run_at (us0 := Value.ref a :: us) F hr (hx σ) I2 (hb s2 (Value.ref a :: us) I2.kIn hl) r2 q2
theorem pe_mS0 {pl : Sem Bool} (he : PE X o ta) (c : Cls X.K C) (hm : Meth X.K C m f) (F : FnOk X.prog X.w X.K X.mg X.base CX k f fd ps sp) (hr : Room k X.A) (hb : Binds X.K fd ps ds) (hd : Vals dvs ds) (hx : ∀ σ, PassesAt CX X σ (E σ))
    (ht : eval (.Call (.Attribute o m apos) [] [] pos) X.env = (do
      let ov ← eval o X.env
      standAt apos.atName
      let (f, first) ← holding [ov] (getMethod ov m pl)
      callWith pos f first (backTo pos (starEach [] X.env)) (backToKw pos (keywordEach [] X.env))) := by rfl) :
    PE X (.Call (.Attribute o m apos) [] [] pos) (tMS C m sp dvs E ta tNil) := by
  refine ⟨fun pins s σ H Q I h => PySem.W.methodCall_KW (pl := pl) (thn (he.run pins s σ H _ I h) fun u s1 ⟨x, H1, I1, rx, a, dx, fs, ex, ea, l, q⟩ => ?_) ht⟩
  subst ex
  obtain rfl : u = Value.ref a := rx
  have r2 : Vals (V.ref a :: ([] ++ dvs)) (Value.ref a :: [] ++ ds) := .cons rfl hd
  have hl : (Value.ref a :: [] ++ ds).length = ps.length := by rw [← r2.length]; exact F.len _ _ _ _ q
  refine getmeth_ok I1 ea c hm l (PySem.W.callWith_K0 (first := [.ref a]) I1.kIn hm.kp (run_at (us0 := [Value.ref a]) F hr (hx σ) I1 (hb s1 [Value.ref a] I1.kIn hl) r2 q))
/-- C(e, ..), the wish of errors by the slots -/
def tKS (C : Addr) (sp : Sp) (dvs : List V) (E : L2.St → XK) (t : TA) : TE := fun σ H Q => t σ H fun vs H1 => ∀ x dx, H1 x = none → H1 dx = none → dx ≠ x →
  sp (.ref x :: (vs ++ dvs)) (upd (upd H1 dx (.own x)) x (.ins C dx [])) (fun v H2 => v = .non ∧ Q (.ref x) H2) (E σ)
theorem pe_kS (M : Mk X.K C f) (F : FnOk X.prog X.w X.K X.mg X.base CX k f fd ps sp) (hr : Room (k + 1) X.A) (hg : Gl X x) (hm : X.mg x = some (.ref C)) (hb : Binds X.K fd ps ds) (hd : Vals dvs ds) (hx : ∀ σ, PassesAt CX X σ (E σ)) (ha : PA X (e :: es) t)
    (hdb : (x == ("__debug__" : Str)) = false := by decide) (he : starEach (e :: es) X.env = (false, eval e X.env) :: starEach es X.env := by rfl) (hpl : (backTo pos (starEach es X.env)).any (·.1) = false := by rfl) :
    PE X (.Call (.Name x p) (e :: es) [] pos) (tKS C sp dvs E t) := by
  refine ⟨fun pins s σ H Q I h => wpAny_Call_Name_kw (ld_glob I hg hm (PySem.W.callWith_K (h₀ := X.base) I.ok.mod.kin M.kp (thn (ha.run pos pins s σ H _ I h) fun us s1 ⟨vs, H1, I1, r, q⟩ => ⟨I1.kIn, ?_⟩) he hpl) hdb)⟩
  have hq := q (s1.heap.objs.size + 1) s1.heap.objs.size (I1.hok.fresh (Nat.le_succ _)) (I1.hok.fresh (Nat.le_refl _)) (Nat.ne_of_lt (Nat.lt_succ_self _))
  have I2 := Inv.made (C := C) I1
  have r2 : Vals (V.ref (s1.heap.objs.size + 1) :: (vs ++ dvs)) (Value.ref (s1.heap.objs.size + 1) :: us ++ ds) := .cons rfl (r.append hd)
  have hl : (Value.ref (s1.heap.objs.size + 1) :: us ++ ds).length = ps.length := by rw [← r2.length]; exact F.len _ _ _ _ hq
  refine wpAny_call (make_map (f := f) I1.kIn M.makes M.init (beq_iff_eq.mp M.fn) (codeAny_mono (F.run _ X.stack _ _ ⟨Value.ref (s1.heap.objs.size + 1) :: us, []⟩ (Value.ref (s1.heap.objs.size + 1) :: us ++ ds) _ _ (E σ) (hr.make C us [])
    (I2.env0.make C us []) (hb _ (Value.ref (s1.heap.objs.size + 1) :: us) I2.kIn hl) r2 hq) fun r s' hz => ?_))
  cases r with
  | error er => exact hx σ pins _ _ er s' I2 hz
  | ok fl => cases fl with
    | ret u =>
      obtain ⟨v, H', I3, rv, ev, q3⟩ := I2.after hz
      subst ev
      exact ⟨rv, ⟨V.ref (s1.heap.objs.size + 1), H', I3, rfl, q3⟩⟩
    | next => exact hz.elim
    | brk => exact hz.elim
    | cont => exact hz.elim
theorem passAll {X : Cx} (σ : L2.St) : PassesAt (L2.CX X.prog X.w) X σ E0 := fun pins H s er s' I h => passL pins σ H s er s' I h
/-- y in o, o of a class with its own __contains__ -/
def rInOwn (C : Addr) (sp : Sp) (E : XK) (neg : Bool) : R2 := fun y x H Q => ∃ a dx fs, x = .ref a ∧ H a = some (.ins C dx fs) ∧ sp [.ref a, y] H (fun v H' => ∃ b : Bool, v = .bl b ∧ Q (.bl (b != neg)) H') E
theorem has_own {pins : List (Addr × Obj)} {σ : L2.St} {H : Hp} {s : Shared} {E : XK} {a dx : Addr} {fs : List (Str × V)} {y : V} {v : Value} {Q : Bool → Hp → Prop} (c : Cls X.K C) (hm : Meth X.K C "__contains__" f) (F : FnOk X.prog X.w X.K X.mg X.base CX k f fd ps sp) (hr : Room k X.A)
    (hb : Binds X.K fd ps []) (hx : Passes CX X E) (I : Inv X pins σ H s) (ea : H a = some (.ins C dx fs)) (ry : RelV y v) (h : sp [.ref a, y] H (fun z H' => ∃ b : Bool, z = .bl b ∧ Q b H') E) :
    wpAny (model X.prog X.w) X.A (contains (.ref a) v) (fun b s' => ∃ H', Inv X pins σ H' s' ∧ Q b H') X.xe s := by
  obtain ⟨mA, O, _⟩ := ins_get I.hok ea
  obtain ⟨od, J, _⟩ := O.look
  unfold contains
  refine wpAny_holding (wpAny_bind (wpAny_bind (J.type.here ((PySem.W.looks_findIn I.kIn hm.at_).here ?_))))
  rw [if_neg (by simp)]
  refine wpAny_bind (PySem.W.unlessNone_K I.kIn J hm.at_ hm.fn (wpAny_mono (run_fn (us := [.ref a, v]) (vs := [.ref a, y]) F hr hb .nil hx I (.cons rfl (.cons ry .nil)) h) (fun u s' hu => ?_) fun _ _ z => z))
  obtain ⟨z, H', I', rz, b, rfl, q⟩ := hu
  obtain rfl : u = Value.bool b := rz
  exact wpAny_truthy_bool ⟨H', I', q⟩
theorem op_inOwn {E : XK} (c : Cls X.K C) (hm : Meth X.K C "__contains__" f) (F : FnOk X.prog X.w X.K X.mg X.base CX k f fd ps sp) (hr : Room k X.A) (hb : Binds X.K fd ps []) (hx : Passes CX X E) : OpR X (compareOp .In) (rInOwn C sp E false) := by
  intro pins s σ H y x v u Q I ry rx h
  obtain ⟨a, dx, fs, rfl, ea, h⟩ := h
  obtain rfl : u = Value.ref a := rx
  refine wpAny_bind (wpAny_mono (has_own (Q := fun b H' => Q (.bl b) H') c hm F hr hb hx I ea ry (by simpa using h)) (fun b s' hz => ?_) fun _ _ z => z)
  obtain ⟨H', I', q⟩ := hz
  exact wpAny_pure ⟨.bl b, H', I', rfl, q⟩
theorem op_notInOwn {E : XK} (c : Cls X.K C) (hm : Meth X.K C "__contains__" f) (F : FnOk X.prog X.w X.K X.mg X.base CX k f fd ps sp) (hr : Room k X.A) (hb : Binds X.K fd ps []) (hx : Passes CX X E) : OpR X (compareOp .NotIn) (rInOwn C sp E true) := by
  intro pins s σ H y x v u Q I ry rx h
  obtain ⟨a, dx, fs, rfl, ea, h⟩ := h
  obtain rfl : u = Value.ref a := rx
  refine wpAny_bind (wpAny_mono (has_own (Q := fun b H' => Q (.bl (!b)) H') c hm F hr hb hx I ea ry (by simpa using h)) (fun b s' hz => ?_) fun _ _ z => z)
  obtain ⟨H', I', q⟩ := hz
  exact wpAny_pure ⟨.bl (!b), H', I', rfl, q⟩
end
/-! the same rules with K named (in comprehensions and trys the context is a bound one) -/
section
variable {X : Cx} {K : PySem.W.Frag}
theorem pe_fldK {e : Expr} {ta : TE} {f : Str} {pos : Pos} (h : X.K = K) (he : PE X e ta) (hb : attributeBase e f X.env (eval e X.env) = eval e X.env) : PE X (.Attribute e f pos) (tFld K ta f) := h ▸ pe_fld he hb
theorem ixK {r : PySem.W.Frag → V → V → Hp → VK → Prop} (h : X.K = K) (q : IxR X (r X.K)) : IxR X (r K) := h ▸ q
theorem slK {r : PySem.W.Frag → V → Option Int → Option Int → Hp → VK → Prop} (h : X.K = K) (q : SlR X (r X.K)) : SlR X (r K) := h ▸ q
theorem opK {f : Value → Value → Sem Value} {r : PySem.W.Frag → R2} (h : X.K = K) (q : OpR X f (r X.K)) : OpR X f (r K) := h ▸ q
theorem callK {v : Value} {r : PySem.W.Frag → List V → Hp → VK → Prop} (h : X.K = K) (q : CallR X v (r X.K)) : CallR X v (r K) := h ▸ q
def rLenK (K : PySem.W.Frag) : List V → Hp → VK → Prop := fun xs H Q => ∃ x n, xs = [x] ∧ LenV K x H n ∧ Q (.int n) H
def rListK (K : PySem.W.Frag) : List V → Hp → VK → Prop := fun xs H Q => ∃ p ys, xs = [.ref p] ∧ (SqL K H p ys ∨ SqT K H p ys) ∧ ∀ l, H l = none → Q (.ref l) (upd H l (.lst ys))
end
/-- what the top says of an own class without errors -/
structure ClsT (K : PySem.W.Frag) (mg : Str → Option Value) (nm : Str) (C : Addr) : Prop where
  cl : Cls K C
  mgC : mg nm = some (.ref C)
  ha : PySem.W.findIn K (.ref C) "__class__" = some (some (.builtin "object.__class__"))
  hn : PySem.W.specialIn K (.builtin "object.__class__") "__get__" = some (some (.builtin "getset_descriptor.__get__"))
  ht : PySem.W.takesIn K (.builtin "object.__class__") = some true
  hm : PySem.W.mroIn K C (.type "object") = some true
theorem kit_self {K : PySem.W.Frag} {t : Value} (h : (t == t) = true) : PySem.W.kitOne K t t = some true := by
  unfold PySem.W.kitOne
  rw [if_pos h]
theorem ClsT.ty {K : PySem.W.Frag} {mg : Str → Option Value} {nm : Str} {C : Addr} (c : ClsT K mg nm C) {H : Hp} {a dx : Addr} {fs : List (Str × V)} (e : H a = some (.ins C dx fs)) : TyX K H (.ref a) (.ref C) := .base (.ins e c.cl c.ha c.hn c.ht c.hm)
/-! one rule or another, by the proof's choice -/
theorem pe_either {X : Cx} {e : Expr} {t1 t2 : TE} (h1 : PE X e t1) (h2 : PE X e t2) : PE X e (fun σ H Q => t1 σ H Q ∨ t2 σ H Q) := ⟨fun pins s σ H Q I h => h.elim (h1.run pins s σ H Q I) (h2.run pins s σ H Q I)⟩
def iSeq (K : PySem.W.Frag) (tl : TE) : TI := fun σ H R => iList K tl σ H R ∨ iTup K tl σ H R
theorem pi_seq {X : Cx} {tg l : Expr} {tl : TE} (h : PE X l tl) : PI X tg l (iSeq X.K tl) := ⟨fun pins s σ H R I h' => h'.elim ((pi_list h).run pins s σ H R I) ((pi_tup h).run pins s σ H R I)⟩

structure ExcT (K : PySem.W.Frag) (mg : Str → Option Value) (nm : Str) (C : Addr) : Prop where
  gC : mg nm = some (.ref C)
  xP : PySem.W.excIn K C [.type "ValueError", .type "Exception", .type "BaseException", .type "object"] "ValueError.__new__" = true
  kC : PySem.W.keepIn K (.ref C) = true
  bP : PySem.W.subIn K (.ref C) (.type "BaseException") = some true
  tP : PySem.W.typeIn K (.ref C) = some (.type "type")
  iP : PySem.W.isClsIn K C = true
  cP : ExcC K C
  vP : PySem.W.kitOne K (.ref C) (.type "ValueError") = some true
structure Env (K : PySem.W.Frag) (mg : Str → Option Value) where
  c_MeridianError : Addr
  c_BadArgument : Addr
  a_encode_number : Addr
  d_encode_number : FuncData
  a_encode_text : Addr
  d_encode_text : FuncData
  a_encode_texts : Addr
  d_encode_texts : FuncData
  a_encode_keys : Addr
  d_encode_keys : FuncData
  a__are_ascending : Addr
  d__are_ascending : FuncData
  a_check_cuts : Addr
  d_check_cuts : FuncData
  a_group_of_key : Addr
  d_group_of_key : FuncData
  a__law_cell : Addr
  d__law_cell : FuncData
  a__law_is_int : Addr
  d__law_is_int : FuncData
  a__law_draws : Addr
  d__law_draws : FuncData
  a__law_text : Addr
  d__law_text : FuncData
  a__law_refused : Addr
  d__law_refused : FuncData
  a_law : Addr
  d_law : FuncData
  F_encode_number : Fun K "encode_number" "encode_number" s_encode_number a_encode_number d_encode_number
  b_encode_number : Binds K d_encode_number ["number"] []
  g_encode_number : mg "encode_number" = some (.ref a_encode_number)
  F_encode_text : Fun K "encode_text" "encode_text" s_encode_text a_encode_text d_encode_text
  b_encode_text : Binds K d_encode_text ["text"] []
  g_encode_text : mg "encode_text" = some (.ref a_encode_text)
  F_encode_texts : Fun K "encode_texts" "encode_texts" s_encode_texts a_encode_texts d_encode_texts
  b_encode_texts : Binds K d_encode_texts ["texts"] []
  g_encode_texts : mg "encode_texts" = some (.ref a_encode_texts)
  F_encode_keys : Fun K "encode_keys" "encode_keys" s_encode_keys a_encode_keys d_encode_keys
  b_encode_keys : Binds K d_encode_keys ["keys"] []
  g_encode_keys : mg "encode_keys" = some (.ref a_encode_keys)
  F__are_ascending : Fun K "_are_ascending" "_are_ascending" s__are_ascending a__are_ascending d__are_ascending
  b__are_ascending : Binds K d__are_ascending ["keys"] []
  g__are_ascending : mg "_are_ascending" = some (.ref a__are_ascending)
  F_check_cuts : Fun K "check_cuts" "check_cuts" s_check_cuts a_check_cuts d_check_cuts
  b_check_cuts : Binds K d_check_cuts ["cuts"] []
  g_check_cuts : mg "check_cuts" = some (.ref a_check_cuts)
  F_group_of_key : Fun K "group_of_key" "group_of_key" s_group_of_key a_group_of_key d_group_of_key
  b_group_of_key : Binds K d_group_of_key ["cuts", "key"] []
  g_group_of_key : mg "group_of_key" = some (.ref a_group_of_key)
  F__law_cell : Fun K "_law_cell" "_law_cell" s__law_cell a__law_cell d__law_cell
  b__law_cell : Binds K d__law_cell ["script", "k"] []
  g__law_cell : mg "_law_cell" = some (.ref a__law_cell)
  F__law_is_int : Fun K "_law_is_int" "_law_is_int" s__law_is_int a__law_is_int d__law_is_int
  b__law_is_int : Binds K d__law_is_int ["thing"] []
  g__law_is_int : mg "_law_is_int" = some (.ref a__law_is_int)
  F__law_draws : Fun K "_law_draws" "_law_draws" s__law_draws a__law_draws d__law_draws
  b__law_draws : Binds K d__law_draws ["cell", "many", "limit"] []
  g__law_draws : mg "_law_draws" = some (.ref a__law_draws)
  F__law_text : Fun K "_law_text" "_law_text" s__law_text a__law_text d__law_text
  b__law_text : Binds K d__law_text ["cell", "many"] []
  g__law_text : mg "_law_text" = some (.ref a__law_text)
  F__law_refused : Fun K "_law_refused" "_law_refused" s__law_refused a__law_refused d__law_refused
  b__law_refused : Binds K d__law_refused ["fences"] []
  g__law_refused : mg "_law_refused" = some (.ref a__law_refused)
  F_law : Fun K "law" "law" s_law a_law d_law
  b_law : Binds K d_law ["script"] []
  e_MeridianError : ExcT K mg "MeridianError" c_MeridianError
  u_MeridianError_MeridianError : PySem.W.exmOne K (.ref c_MeridianError) (.ref c_MeridianError) = some true
  q_MeridianError_MeridianError : PySem.W.kitOne K (.ref c_MeridianError) (.ref c_MeridianError) = some true
  u_MeridianError_BadArgument : PySem.W.exmOne K (.ref c_MeridianError) (.ref c_BadArgument) = some false
  q_MeridianError_BadArgument : PySem.W.kitOne K (.ref c_MeridianError) (.ref c_BadArgument) = some false
  e_BadArgument : ExcT K mg "BadArgument" c_BadArgument
  u_BadArgument_MeridianError : PySem.W.exmOne K (.ref c_BadArgument) (.ref c_MeridianError) = some true
  q_BadArgument_MeridianError : PySem.W.kitOne K (.ref c_BadArgument) (.ref c_MeridianError) = some true
  u_BadArgument_BadArgument : PySem.W.exmOne K (.ref c_BadArgument) (.ref c_BadArgument) = some true
  q_BadArgument_BadArgument : PySem.W.kitOne K (.ref c_BadArgument) (.ref c_BadArgument) = some true
  o_ALPHABET : Value
  k_ALPHABET : mg "ALPHABET" = some o_ALPHABET
  r_ALPHABET : RelV (.str "abcdefghijklmnopqrstuvwxyz0123456789./") o_ALPHABET
  z_len : mg "len" = none
  z_abs : mg "abs" = none
  z_int : mg "int" = none
  z_isinstance : mg "isinstance" = none
  z_bool : mg "bool" = none
  z_range : mg "range" = none
  z_sorted : mg "sorted" = none
  z_list : mg "list" = none
  z_tuple : mg "tuple" = none
section
variable {P : Program} {w : World} {K : PySem.W.Frag} {mg : Str → Option Value} {base : Heap}
--PART /work/steering/wip/tools/pre.lean


--PART /work/steering/wip/tools/own.lean


--PART /work/steering/wip/parts/rets.lean

--PART /work/steering/wip/parts/num.lean
/-! ### base 128 -/
def vint (n : Int) : List Int := if n < 128 then [n] else (n % 128 + 128) :: vint (n / 128)
termination_by n.toNat
decreasing_by omega
theorem vint_lt {n : Int} (h : n < 128) : vint n = [n] := by rw [vint, if_pos h]
theorem vint_ge {n : Int} (h : ¬ n < 128) : vint n = (n % 128 + 128) :: vint (n / 128) := by rw [vint, if_neg h]
def NB : Int := 128 ^ 100
theorem vint_len : ∀ (k : Nat) (n : Int), n < 128 ^ (k + 1) → (vint n).length ≤ k + 1
  | 0, n, h => by
    have h' : n < 128 := by simpa using h
    rw [vint_lt h']
    exact Nat.le_refl _
  | k + 1, n, h => by
    by_cases c : n < 128
    · rw [vint_lt c]
      show 1 ≤ _
      omega
    · rw [vint_ge c, List.length_cons]
      have := vint_len k (n / 128) (by
        have e : (128 : Int) ^ (k + 1 + 1) = 128 ^ (k + 1) * 128 := Int.pow_succ ..
        rw [e] at h
        exact Int.ediv_lt_of_lt_mul (by decide) h)
      omega
theorem vint_len100 {n : Int} (h : n < NB) : (vint n).length ≤ 100 := vint_len 99 n h
theorem vint_ne (n : Int) : vint n ≠ [] := by
  by_cases c : n < 128
  · rw [vint_lt c]; simp
  · rw [vint_ge c]; simp
theorem vint_pos (n : Int) : 1 ≤ (vint n).length := by
  have := vint_ne n
  cases e : vint n with
  | nil => exact absurd e this
  | cons a r => simp
theorem vint_byte : ∀ (k : Nat) (n : Int), n < 128 ^ (k + 1) → 0 ≤ n → ∀ b ∈ vint n, 0 ≤ b ∧ b < 256
  | 0, n, h, h0, b, hb => by
    have h' : n < 128 := by simpa using h
    rw [vint_lt h'] at hb
    have : b = n := by simpa using hb
    omega
  | k + 1, n, h, h0, b, hb => by
    by_cases c : n < 128
    · rw [vint_lt c] at hb
      have : b = n := by simpa using hb
      omega
    · rw [vint_ge c] at hb
      rcases List.mem_cons.mp hb with e | e
      · omega
      · exact vint_byte k (n / 128) (by
          have e : (128 : Int) ^ (k + 1 + 1) = 128 ^ (k + 1) * 128 := Int.pow_succ ..
          rw [e] at h
          exact Int.ediv_lt_of_lt_mul (by decide) h) (by omega) b e
theorem vint_byte_NB {n : Int} (h : n < NB) (h0 : 0 ≤ n) : ∀ b ∈ vint n, 0 ≤ b ∧ b < 256 := vint_byte 99 n h h0
/-! ### numbers of the law -/
def lawNum (c : Int) : Int := if c < 10 ^ 18 then ([0, 1, 127, 128, 129, 16383, 16384, 16385, c] : List Int).getD (c % 9).toNat 0 else c % 10 ^ 60
theorem lawNum_lt {c : Int} (h : 0 ≤ c) : 0 ≤ lawNum c ∧ lawNum c < 10 ^ 60 := by
  unfold lawNum
  by_cases k : c < 10 ^ 18
  · rw [if_pos k]
    obtain ⟨j, hj, e⟩ : ∃ j : Nat, j < 9 ∧ (c % 9).toNat = j := ⟨_, by omega, rfl⟩
    rw [e]
    match j, hj with
    | 0, _ | 1, _ | 2, _ | 3, _ | 4, _ | 5, _ | 6, _ | 7, _ => exact ⟨by simp, by simp⟩
    | 8, _ => exact ⟨h, by show c < _; omega⟩
  · rw [if_neg k]
    exact ⟨Int.emod_nonneg _ (by decide), Int.emod_lt_of_pos _ (by decide)⟩
theorem num_NB {n : Int} (h : n < 10 ^ 60) : n < NB := Int.lt_of_lt_of_le h (by decide +kernel)
theorem canLay_dints : ∀ ns : List Int, PyData.canLayAll0 (ns.map PyData.int) = true
  | [] => rfl
  | n :: r => by
    show (PyData.canLay0 (.int n) && PyData.canLayAll0 (r.map PyData.int)) = true
    rw [canLay_dints r]
    rfl
theorem depth_dints : ∀ ns : List Int, PyData.depthAll (ns.map PyData.int) = 0
  | [] => by unfold PyData.depthAll; rfl
  | n :: r => by
    show PyData.depthAll (.int n :: r.map PyData.int) = 0
    unfold PyData.depthAll
    rw [depth_dints r]
    unfold PyData.depth
    rfl
theorem shaped_dInts (ns : List Int) : SeqAt.shaped (dInts ns) = true := by
  unfold SeqAt.shaped dInts
  rw [show PyData.canLay0 (.list (ns.map PyData.int)) = true from by unfold PyData.canLay0; exact canLay_dints ns]
  have : PyData.depth (.list (ns.map PyData.int)) = 1 := by
    unfold PyData.depth
    rw [depth_dints]
  rw [this]
  decide

--PART /work/steering/wip/parts/lawnum.lean
/-! ### the law's own helpers -/
def cell (ns : List Int) (k : Int) : Int := ((ns.getD k.toNat 0).natAbs : Int)
theorem cell_nn (ns : List Int) (k : Int) : 0 ≤ cell ns k := Int.natCast_nonneg _
def sp__law_cell (T : Env K mg) : Sp := fun vs H Q E => ∃ (a : Addr) (ns : List Int) (k : Int), vs = [.ref a, .int k] ∧ SqL K H a (ns.map V.int) ∧ 0 ≤ k ∧ Q (.int (cell ns k)) H
theorem ok__law_cell (T : Env K mg) : FnOk P w K mg base (L2.CX P w) 1 T.a__law_cell T.d__law_cell ["script", "k"] (sp__law_cell T) := by
  refine T.F__law_cell.okX sc__law_cell (fun vs H Q E h => by obtain ⟨_, _, _, rfl, _⟩ := h; rfl) (fun cdv A outer s H vs Q E hr h => ?_)
  obtain ⟨a, ns, k, rfl, hS, hk, h1⟩ := h
  refine ⟨_, (pss_cons (ps_if (pt_cmpR op_lt (pv 1) (pe_callB call_len (by rfl) T.z_len (by decide +kernel) (pa_cons (pv 0) pa_nil)) (nomark _)) (pss_one (ps_ret (pe_callB call_abs (by rfl) T.z_abs (by decide +kernel) (pa_cons (pe_callTy call_int1 (by rfl) T.z_int (by decide +kernel) (pa_cons (pe_ix ix_list (pv 0) (pv 1) (fun _ _ => rfl)) pa_nil)) pa_nil)))) pss_nil)
      (pss_one (ps_ret pe_int))), ?_⟩
  obtain ⟨j, rfl⟩ : ∃ j : Nat, k = (j : Int) := ⟨k.toNat, by omega⟩
  have hc : cell ns (j : Int) = ((ns.getD j 0).natAbs : Int) := rfl
  refine ⟨_, rfl, _, rfl, _, _, rfl, .inl ⟨_, hS, rfl⟩, _, _, rfl, rfl, _, rfl, iteD (fun c => ?_) (fun c => ?_)⟩
  · rw [List.length_map] at c
    have hj : j < ns.length := by omega
    refine ⟨_, rfl, _, rfl, a, _, _, _, rfl, rfl, hS, at_of (j := j) (v := V.int (ns.getD j 0)) rfl (by rw [List.getElem?_map, List.getD_eq_getElem?_getD, List.getElem?_eq_getElem hj]; rfl), .inl ⟨_, rfl, _, rfl, ?_⟩⟩
    have e : (if ns.getD j 0 < 0 then -ns.getD j 0 else ns.getD j 0) = cell ns (j : Int) := by
      rw [hc]
      split <;> omega
    show Q (V.int (if ns.getD j 0 < 0 then -ns.getD j 0 else ns.getD j 0)) H
    rw [e]
    exact h1
  · rw [List.length_map] at c
    show Q (.int 0) H
    have e : cell ns (j : Int) = 0 := by
      rw [hc, List.getD_eq_getElem?_getD, List.getElem?_eq_none (by omega)]
      rfl
    rw [e] at h1
    exact h1
def sp__law_is_int (T : Env K mg) : Sp := fun vs H Q E => ∃ (i : Int), vs = [.int i] ∧ Q (.bl true) H
theorem ok__law_is_int (T : Env K mg) : FnOk P w K mg base (L2.CX P w) 1 T.a__law_is_int T.d__law_is_int ["thing"] (sp__law_is_int T) := by
  refine T.F__law_is_int.okX sc__law_is_int (fun vs H Q E h => by obtain ⟨_, rfl, _⟩ := h; rfl) (fun cdv A outer s H vs Q E hr h => ?_)
  obtain ⟨i, rfl, h1⟩ := h
  refine ⟨_, (pss_one (ps_ret (pe_and (pe_callB call_isi (by rfl) T.z_isinstance (by decide +kernel) (pa_cons (pv 0) (pa_cons (pe_bltn (v := .ty "int") (by rfl) T.z_int (by decide +kernel) rfl) pa_nil))) (pe_one (pe_not (pe_callB call_isi (by rfl) T.z_isinstance (by decide +kernel) (pa_cons (pv 0) (pa_cons (pe_bltn (v := .ty "bool") (by rfl) T.z_bool (by decide +kernel) rfl) pa_nil)))))))), ?_⟩
  refine ⟨_, rfl, _, _, _, _, _, rfl, .ty _, .base (.int _), kit_ty (b := "int") (r := true) (by decide +kernel), _, rfl, iteT ?_⟩
  exact ⟨_, rfl, _, _, _, _, _, rfl, .ty _, .base (.int _), kit_ty (b := "bool") (r := false) (by decide +kernel), _, rfl, h1⟩

--PART /work/steering/wip/parts/draws.lean
/-! ### drawn numbers -/
def bigGo (l : Int) : Nat → Int → List Int
  | 0, _ => []
  | m + 1, c => c % l :: bigGo l m (c / l)
def mixGo (l : Int) : Nat → Int → Int → List Int
  | 0, _, _ => []
  | m + 1, k, x => ((x * 16807 + 7919 * k) % 2147483647) / 64 % l :: mixGo l m (k + 1) ((x * 16807 + 7919 * k) % 2147483647)
def draws (c : Int) (m : Nat) (l : Int) : List Int := if 10 ^ 18 ≤ c then bigGo l m c else mixGo l m 0 ((c * 48271 + 12345) % 2147483647)
theorem bigGo_len (l : Int) : ∀ m c, (bigGo l m c).length = m
  | 0, _ => rfl
  | m + 1, c => by
    show (bigGo l m _).length + 1 = _
    rw [bigGo_len l m]
theorem mixGo_len (l : Int) : ∀ m k x, (mixGo l m k x).length = m
  | 0, _, _ => rfl
  | m + 1, k, x => by
    show (mixGo l m _ _).length + 1 = _
    rw [mixGo_len l m]
theorem bigGo_mem {l : Int} (hl : 0 < l) : ∀ m c, ∀ d ∈ bigGo l m c, 0 ≤ d ∧ d < l
  | 0, _, d, h => by cases h
  | m + 1, c, d, h => by
    rcases List.mem_cons.mp h with e | e
    · rw [e]
      exact ⟨Int.emod_nonneg _ (by omega), Int.emod_lt_of_pos _ hl⟩
    · exact bigGo_mem hl m _ d e
theorem mixGo_mem {l : Int} (hl : 0 < l) : ∀ m k x, ∀ d ∈ mixGo l m k x, 0 ≤ d ∧ d < l
  | 0, _, _, d, h => by cases h
  | m + 1, k, x, d, h => by
    rcases List.mem_cons.mp h with e | e
    · rw [e]
      exact ⟨Int.emod_nonneg _ (by omega), Int.emod_lt_of_pos _ hl⟩
    · exact mixGo_mem hl m _ _ d e
theorem draws_len (c : Int) (m : Nat) (l : Int) : (draws c m l).length = m := by
  unfold draws
  split
  · exact bigGo_len l m c
  · exact mixGo_len l m _ _
theorem draws_mem {c : Int} {m : Nat} {l : Int} (hl : 0 < l) : ∀ d ∈ draws c m l, 0 ≤ d ∧ d < l := by
  unfold draws
  split
  · exact bigGo_mem hl m c
  · exact mixGo_mem hl m _ _
def sp__law_draws (T : Env K mg) : Sp := fun vs H Q E => ∃ c m l : Int, vs = [.int c, .int m, .int l] ∧ 0 ≤ m ∧ m ≤ 100000 ∧ 0 < l ∧ l < 1000000 ∧ ∀ p H', Same H H' → H p = none → Li H' p (draws c m.toNat l) → Q (.ref p) H'
theorem ok__law_draws (T : Env K mg) : FnOk P w K mg base (L2.CX P w) 1 T.a__law_draws T.d__law_draws ["cell", "many", "limit"] (sp__law_draws T) := by
  refine T.F__law_draws.okX sc__law_draws (fun vs H Q E h => by obtain ⟨_, _, _, rfl, _⟩ := h; rfl) (fun cdv A outer s H vs Q E hr h => ?_)
  obtain ⟨c, m, l, rfl, hm, hm2, hl, hl2, h1⟩ := h
  refine ⟨_, (pss_cons (ps_set (i := 3) sc__law_draws.nd rfl (Or.inl rfl) (pe_lst pa_nil))
      (pss_cons (ps_if (pt_cmpR op_ge (pv 0) (pe_op op_pow pe_int pe_int) (nomark _)) (pss_cons (ps_for (passes_of rfl) rfl (pi_range1 rfl T.z_range (pa_cons (pv 1) pa_nil)) (pg_name (i := 4) sc__law_draws.nd rfl (Or.inl rfl)) (pss_cons (ps_expr (pe_bm PySem.F.plainAttrs_list PySem.F.slot_list_append PySem.F.type_list_append mt_append (pv 3) (pa_cons (pe_op op_mod (pe_callTy call_int1 (by rfl) T.z_int (by decide +kernel) (pa_cons (pv 0) pa_nil)) (pv 2)) pa_nil)))
      (pss_one (ps_set (i := 0) sc__law_draws.nd rfl (Or.inl rfl) (pe_op op_fdiv (pv 0) (pv 2))))))
      (pss_one (ps_ret (pv 3)))) pss_nil)
      (pss_cons (ps_set (i := 5) sc__law_draws.nd rfl (Or.inl rfl) (pe_op op_mod (pe_callTy call_int1 (by rfl) T.z_int (by decide +kernel) (pa_cons (pe_op op_add (pe_op op_mul (pv 0) pe_int) pe_int) pa_nil)) pe_int))
      (pss_cons (ps_for (passes_of rfl) rfl (pi_range1 rfl T.z_range (pa_cons (pv 1) pa_nil)) (pg_name (i := 4) sc__law_draws.nd rfl (Or.inl rfl)) (pss_cons (ps_set (i := 5) sc__law_draws.nd rfl (Or.inl rfl) (pe_op op_mod (pe_callTy call_int1 (by rfl) T.z_int (by decide +kernel) (pa_cons (pe_op op_add (pe_op op_mul (pv 5) pe_int) (pe_op op_mul pe_int (pv 4))) pa_nil)) pe_int))
      (pss_one (ps_expr (pe_bm PySem.F.plainAttrs_list PySem.F.slot_list_append PySem.F.type_list_append mt_append (pv 3) (pa_cons (pe_op op_mod (pe_op op_fdiv (pv 5) pe_int) (pv 2)) pa_nil))))))
      (pss_one (ps_ret (pv 3))))))), ?_⟩
  refine ⟨Nat.zero_le _, fun p np => ?_⟩
  refine ⟨_, rfl, _, _, rfl, rfl, ⟨by decide, by decide, by decide⟩, _, _, rfl, rfl, _, rfl, iteD (fun k => ?_) (fun k => ?_)⟩
  · have k : 10 ^ 18 ≤ c := k
    have ed : draws c m.toNat l = bigGo l m.toNat c := if_pos k
    rw [ed] at h1
    refine ⟨_, rfl, m, rfl, by omega, by omega, for_range (n := m.toNat) (fun i σ H' => ∃ c' v4 pre, σ = [some (.int c'), some (.int m), some (.int l), some (.ref p), v4, none] ∧ i ≤ m.toNat ∧ pre.length = i ∧ pre ++ bigGo l (m.toNat - i) c' = bigGo l m.toNat c ∧ Same H H' ∧ Li H' p pre) ⟨c, none, [], rfl, Nat.zero_le _, rfl, rfl, same_new np, upd_same⟩ ?_ ?_⟩
    · rintro i σ H1 hi ⟨c', v4, pre, rfl, _, hp, he, hs, hL⟩
      refine ⟨_, rfl, .inl ⟨rfl, _, SqL.of hL⟩, _, rfl, .inl ⟨_, rfl, _, rfl, _, _, rfl, rfl, hl, _, _, _, rfl, rfl, hL, szl (by rw [List.length_map]; omega), ?_⟩⟩
      refine ⟨_, rfl, _, rfl, _, _, rfl, rfl, ⟨hl, by omega⟩, ?_⟩
      refine ⟨c' / l, _, pre ++ [c' % l], rfl, by omega, by rw [List.length_append, hp]; rfl, ?_, same_mut hs np, li_push⟩
      rw [← he, List.append_assoc, show m.toNat - i = (m.toNat - (i + 1)) + 1 by omega]
      rfl
    · rintro σ H1 ⟨c', v4, pre, rfl, _, hp, he, hs, hL⟩
      refine ⟨_, rfl, h1 p _ hs np ?_⟩
      rw [← he, Nat.sub_self]
      show Li _ _ (pre ++ [])
      rw [List.append_nil]
      exact hL
  · have k : ¬ 10 ^ 18 ≤ c := k
    have ed : draws c m.toNat l = mixGo l m.toNat 0 ((c * 48271 + 12345) % 2147483647) := if_neg k
    rw [ed] at h1
    refine ⟨_, rfl, _, _, rfl, rfl, .inr ⟨by decide, by decide⟩, _, _, rfl, rfl, .inl ⟨_, rfl, _, _, rfl, rfl, by show (0 : Int) < _; decide, ?_⟩⟩
    refine ⟨_, rfl, m, rfl, by omega, by omega, for_range (n := m.toNat) (fun i σ H' => ∃ x v4 pre, σ = [some (.int c), some (.int m), some (.int l), some (.ref p), v4, some (.int x)] ∧ i ≤ m.toNat ∧ pre.length = i ∧ pre ++ mixGo l (m.toNat - i) (0 + (i : Int)) x = mixGo l m.toNat 0 ((c * 48271 + 12345) % 2147483647) ∧ Same H H' ∧ Li H' p pre) ⟨_, none, [], rfl, Nat.zero_le _, rfl, rfl, same_new np, upd_same⟩ ?_ ?_⟩
    · rintro i σ H1 hi ⟨x, v4, pre, rfl, _, hp, he, hs, hL⟩
      refine ⟨_, rfl, _, _, rfl, rfl, .inr ⟨by decide, by decide⟩, _, rfl, _, _, rfl, rfl, .inl ⟨by decide, by decide⟩, _, _, rfl, rfl, .inl ⟨_, rfl, _, _, rfl, rfl, by show (0 : Int) < _; decide, ?_⟩⟩
      refine ⟨_, rfl, .inl ⟨rfl, _, SqL.of hL⟩, _, rfl, _, _, rfl, rfl, ⟨by decide, by decide⟩, _, rfl, _, _, rfl, rfl, hl, _, _, _, rfl, rfl, hL, szl (by rw [List.length_map]; omega), ?_⟩
      refine ⟨_, _, pre ++ [((x * 16807 + 7919 * (0 + (i : Int))) % 2147483647) / 64 % l], rfl, by omega, by rw [List.length_append, hp]; rfl, ?_, same_mut hs np, li_push⟩
      rw [← he, List.append_assoc, show m.toNat - i = (m.toNat - (i + 1)) + 1 by omega, show (0 + ((i + 1 : Nat) : Int)) = 0 + (i : Int) + 1 by omega]
      rfl
    · rintro σ H1 ⟨x, v4, pre, rfl, _, hp, he, hs, hL⟩
      refine ⟨_, rfl, h1 p _ hs np ?_⟩
      rw [← he, Nat.sub_self]
      show Li _ _ (pre ++ [])
      rw [List.append_nil]
      exact hL
def blk (c : Int) (m : Nat) : List Int := (draws c m 997).map (· % 256)
theorem blk_len (c : Int) (m : Nat) : (blk c m).length = m := by
  unfold blk
  rw [List.length_map, draws_len]
theorem blk_mem (c : Int) (m : Nat) : ∀ d ∈ blk c m, 0 ≤ d ∧ d < 256 := by
  intro d h
  obtain ⟨e, _, rfl⟩ := List.mem_map.mp h
  exact ⟨Int.emod_nonneg _ (by decide), Int.emod_lt_of_pos _ (by decide)⟩
--PART /work/steering/wip/parts/encnum.lean
def sp_encode_number (T : Env K mg) : Sp := fun vs H Q E => ∃ n : Int, vs = [.int n] ∧ n < NB ∧ (0 ≤ n → ∀ p H', Same H H' → H p = none → H' p = some (.lst ((vint n).map V.int)) → Q (.ref p) H') ∧ (n < 0 → E (.ref T.c_BadArgument) none H)
theorem ok_encode_number (T : Env K mg) : FnOk P w K mg base (L2.CX P w) 1 T.a_encode_number T.d_encode_number ["number"] (sp_encode_number T) := by
  refine T.F_encode_number.okX sc_encode_number (fun vs H Q E h => by obtain ⟨n, rfl, _⟩ := h; rfl) (fun cdv A outer s H vs Q E hr h => ?_)
  obtain ⟨n, rfl, hb, h1, h2⟩ := h
  refine ⟨_, (pss_cons (ps_if (pt_cmpR op_lt (pv 0) pe_int (nomark _)) (pss_one (ps_raise rfl (takes_of rfl rfl rfl rfl) (pmk_own PySem.F.excBase_ValueError T.e_BadArgument.xP T.e_BadArgument.gC T.e_BadArgument.kC (raises_own T.e_BadArgument.bP T.e_BadArgument.tP) (by exact rfl)))) pss_nil)
      (pss_cons (ps_set (i := 1) sc_encode_number.nd rfl (Or.inl rfl) (pe_lst pa_nil))
      (pss_cons (ps_while (passes_of rfl) (pt_cmpR op_ge (pv 0) pe_int (nomark _)) (pss_cons (ps_expr (pe_bm PySem.F.plainAttrs_list PySem.F.slot_list_append PySem.F.type_list_append mt_append (pv 1) (pa_cons (pe_op op_add (pe_op op_mod (pv 0) pe_int) pe_int) pa_nil)))
      (pss_one (ps_set (i := 0) sc_encode_number.nd rfl (Or.inl rfl) (pe_op op_fdiv (pv 0) pe_int)))))
      (pss_cons (ps_expr (pe_bm PySem.F.plainAttrs_list PySem.F.slot_list_append PySem.F.type_list_append mt_append (pv 1) (pa_cons (pv 0) pa_nil)))
      (pss_one (ps_ret (pv 1))))))), ?_⟩
  refine ⟨_, rfl, _, _, rfl, rfl, _, rfl, ite2 (fun c => h2 (of_decide_eq_true c)) (fun c => ?_)⟩
  have hn : 0 ≤ n := by
    have := of_decide_eq_false (eq_false_of_ne_true c)
    omega
  refine ⟨Nat.zero_le _, fun p np => ?_⟩
  refine ⟨fun m σ H' => ∃ (k : Int) (pre : List Int), m = k.toNat ∧ σ = [some (.int k), some (.ref p)] ∧ 0 ≤ k ∧ pre ++ vint k = vint n ∧ Same H H' ∧ H' p = some (.lst (pre.map V.int)), ⟨_, n, [], rfl, rfl, hn, rfl, same_new np, upd_same⟩, ?_⟩
  rintro m σ H' ⟨k, pre, rfl, rfl, hk, hp, hs, hl⟩
  have hlen : pre.length + (vint k).length ≤ 100 := by
    rw [← List.length_append, hp]
    exact vint_len100 hb
  have hpos := vint_pos k
  refine ⟨_, rfl, _, _, rfl, rfl, _, rfl, ite2 (fun c => ?_) (fun c => ?_)⟩
  · have c := of_decide_eq_true c
    refine ⟨fun σ' H' => _, fun _ _ h => h, ?_⟩
    refine ⟨_, rfl, .inl ⟨rfl, _, SqL.of hl⟩, _, rfl, _, _, rfl, rfl, by show (0 : Int) < _; decide, _, _, rfl, rfl, _, _, _, rfl, rfl, hl, by rw [List.length_map]; exact small1000 (by omega), ?_⟩
    refine ⟨_, rfl, _, _, rfl, rfl, ⟨by decide, by decide⟩, ?_⟩
    refine ⟨(k / 128).toNat, by omega, k / 128, pre ++ [k % 128 + 128], rfl, rfl, by omega, ?_, same_mut hs np, ?_⟩
    · rw [List.append_assoc, ← hp, vint_ge (n := k) (by omega)]
      rfl
    · rw [upd_same, List.map_append]
      rfl
  · have c := of_decide_eq_false (eq_false_of_ne_true c)
    refine ⟨_, rfl, .inl ⟨rfl, _, SqL.of hl⟩, _, rfl, _, _, _, rfl, rfl, hl, by rw [List.length_map]; exact small1000 (by omega), ?_⟩
    refine ⟨_, rfl, ?_⟩
    refine h1 hn p _ (same_mut hs np) np ?_
    rw [upd_same, ← hp, vint_lt (n := k) (by omega), List.map_append]
    rfl

--PART /work/steering/wip/parts/texts.lean
/-! ### texts -/
abbrev AL : Str := "abcdefghijklmnopqrstuvwxyz0123456789./"
def codeI (c : Nat) : Int := Txt.find AL ⟨#[c]⟩
def okT (t : Str) : Prop := ∀ c ∈ t.cps.toList, 0 ≤ codeI c
instance (t : Str) : Decidable (okT t) := by unfold okT; infer_instance
def encT (t : Str) : List Int := vint t.length ++ t.cps.toList.map codeI
theorem str_len (t : Str) : t.length = t.cps.toList.length := rfl
theorem encT_len {t : Str} (h : t.length ≤ 100000) : (encT t).length ≤ 100100 := by
  unfold encT
  rw [List.length_append, List.length_map, ← str_len]
  have := vint_len100 (n := (t.length : Int)) (Int.lt_of_le_of_lt (b := 100000) (by omega) (by decide +kernel))
  omega
theorem small_NB {n : Nat} (h : n ≤ 100000) : ((n : Nat) : Int) < NB := Int.lt_of_le_of_lt (b := 100000) (by omega) (by decide +kernel)
theorem for_its {t : Str} {g : TG} {tb : TS} {D : Ends} {σ : L2.St} {H : Hp} (Pv : Nat → L2.St → Hp → Prop) (h0 : Pv 0 σ H)
    (hs : ∀ (i : Nat) (c : Nat) (σ : L2.St) (H : Hp), t.cps.toList[i]? = some c → Pv i σ H → g (.str ⟨#[c]⟩) σ H fun σ2 H2 => tb { nx := Pv (i + 1), rt := D.rt, bk := D.nx, ct := Pv (i + 1) } σ2 H2)
    (hd : ∀ (σ : L2.St) (H : Hp), Pv t.length σ H → D.nx σ H) :
    ∃ W : Nat → Nat → L2.St → Hp → Prop, (∃ m, W 0 m σ H) ∧ ∀ (i m : Nat) (σ : L2.St) (H : Hp), W i m σ H → ((Its t).stop i H ∧ D.nx σ H) ∨ ((Its t).go i H ∧ ∃ N : L2.St → Hp → Prop, (∀ (σ' : L2.St) (H' : Hp), N σ' H' → ∃ m', m' < m ∧ W (i + 1) m' σ' H') ∧
      ∀ (x : V) (H' : Hp), (Its t).yld i H x H' → g x σ H' fun σ2 H2 => tb { nx := N, rt := D.rt, bk := D.nx, ct := N } σ2 H2) := by
  refine ⟨fun i m σ H => m = t.length - i ∧ i ≤ t.length ∧ Pv i σ H, ⟨_, rfl, Nat.zero_le _, h0⟩, ?_⟩
  rintro i m σ H ⟨rfl, hi, hp⟩
  by_cases k : i < t.length
  · refine .inr ⟨k, Pv (i + 1), fun σ' H' hq => ⟨_, by omega, rfl, k, hq⟩, ?_⟩
    rintro x H' ⟨rfl, c, hc, rfl⟩
    exact hs i c σ H' (by rw [Array.getElem?_toList]; exact hc) hp
  · have e : i = t.length := by omega
    subst e
    exact .inl ⟨Nat.le_refl _, hd σ H hp⟩
def sp_encode_text (T : Env K mg) : Sp := fun vs H Q E => ∃ t : Str, vs = [.str t] ∧ t.length ≤ 100000 ∧ (okT t → ∀ p H', Same H H' → H p = none → Li H' p (encT t) → Q (.ref p) H') ∧ (¬ okT t → ∀ H', Same H H' → E (.ref T.c_BadArgument) none H')
theorem ok_encode_text (T : Env K mg) : FnOk P w K mg base (L2.CX P w) 2 T.a_encode_text T.d_encode_text ["text"] (sp_encode_text T) := by
  refine T.F_encode_text.okX sc_encode_text (fun vs H Q E h => by obtain ⟨_, rfl, _⟩ := h; rfl) (fun cdv A outer s H vs Q E hr h => ?_)
  obtain ⟨t, rfl, hl, h1, h2⟩ := h
  have hu64 := hu64_of hr
  have G_encode_number := ok_encode_number (P := P) (w := w) (base := base) T
  refine ⟨_, (pss_cons (ps_set (i := 1) sc_encode_text.nd rfl (Or.inl rfl) (pe_call G_encode_number (hr.mono (by decide)) rfl T.g_encode_number T.F_encode_number.kp T.b_encode_number .nil (passes_call (takes_of rfl rfl rfl rfl) (fun _ _ _ _ x => x)) (pa_cons (pe_callB call_len (by rfl) T.z_len (by decide +kernel) (pa_cons (pv 0) pa_nil)) pa_nil)))
      (pss_cons (ps_for (passes_of rfl) rfl (pi_str (pv 0)) (pg_name (i := 2) sc_encode_text.nd rfl (Or.inl rfl)) (pss_cons (ps_set (i := 3) sc_encode_text.nd rfl (Or.inl rfl) (pe_m1 PySem.F.slot_str_find PySem.F.type_str_find mt_find (pe_glob rfl T.k_ALPHABET T.r_ALPHABET) (pv 2)))
      (pss_cons (ps_if (pt_cmpR op_lt (pv 3) pe_int (nomark _)) (pss_one (ps_raise rfl (takes_of rfl rfl rfl rfl) (pmk_own PySem.F.excBase_ValueError T.e_BadArgument.xP T.e_BadArgument.gC T.e_BadArgument.kC (raises_own T.e_BadArgument.bP T.e_BadArgument.tP) (by exact rfl)))) pss_nil)
      (pss_one (ps_expr (pe_bm PySem.F.plainAttrs_list PySem.F.slot_list_append PySem.F.type_list_append mt_append (pv 1) (pa_cons (pv 3) pa_nil)))))))
      (pss_one (ps_ret (pv 1))))), ?_⟩
  refine ⟨_, rfl, _, _, rfl, ⟨szle (by omega), rfl⟩, _, rfl, small_NB hl, fun _ p H1 s1 np hp => ?_, fun q => absurd q (by omega)⟩
  refine ⟨_, rfl, t, rfl, ?_⟩
  refine for_its (t := t) (fun i σ H' => ∃ v2 v3, σ = [some (.str t), some (.ref p), v2, v3] ∧ Same H H' ∧ (∀ c ∈ t.cps.toList.take i, 0 ≤ codeI c) ∧ Li H' p (vint t.length ++ (t.cps.toList.take i).map codeI)) ⟨none, none, rfl, s1, fun c h => by simp at h, by simpa using hp⟩ ?_ ?_
  · rintro i c σ H' hc ⟨v2, v3, rfl, sA, hok, hL⟩
    refine ⟨⟨_, rfl⟩, _, rfl, _, _, rfl, rfl, ?_⟩
    refine ⟨_, rfl, _, _, rfl, rfl, _, rfl, iteD (fun k => ?_) (fun k => ?_)⟩
    · exact h2 (fun q => absurd (q c (List.mem_of_getElem? hc)) (Int.not_le.mpr k)) _ sA
    · have k : ¬ codeI c < 0 := k
      have hi : i < t.length := (List.getElem?_eq_some_iff.mp hc).1
      have hv := vint_len100 (small_NB hl)
      refine ⟨_, rfl, .inl ⟨rfl, _, SqL.of hL⟩, _, rfl, _, _, _, rfl, rfl, hL, szl (by rw [List.length_map, List.length_append, List.length_map, List.length_take]; omega), ?_⟩
      refine ⟨_, _, rfl, same_mut sA np, ?_, ?_⟩
      · rw [take_succ hc]
        intro d hd
        rcases List.mem_append.mp hd with q | q
        · exact hok d q
        · have : d = c := by simpa using q
          rw [this]
          omega
      · rw [take_succ hc, List.map_append (f := codeI), ← List.append_assoc]
        exact li_push
  · rintro σ H' ⟨v2, v3, rfl, sA, hok, hL⟩
    rw [str_len, List.take_length] at hok hL
    exact ⟨_, rfl, h1 hok p _ sA np hL⟩
theorem glue_sg (a : Array Nat) : ∀ L : List Nat, List.foldl (fun acc (p : Str) => acc ++ Str.empty.cps ++ p.cps) a (L.map fun c => (⟨#[c]⟩ : Str)) = a ++ L.toArray
  | [] => by simp
  | c :: r => by
    rw [List.map_cons, List.foldl_cons, glue_sg _ r]
    show (a ++ #[] ++ #[c]) ++ r.toArray = _
    simp
theorem join_sg (L : List Nat) : Txt.join Str.empty (L.map fun c => (⟨#[c]⟩ : Str)) = ⟨L.toArray⟩ := by
  cases L with
  | nil => rfl
  | cons c r =>
    show (⟨List.foldl (fun acc (p : Str) => acc ++ Str.empty.cps ++ p.cps) #[c] (r.map fun c => (⟨#[c]⟩ : Str))⟩ : Str) = _
    rw [glue_sg]
    simp
theorem sum_sg (L : List Nat) : ((L.map fun c => (⟨#[c]⟩ : Str)).map (·.length)).sum = L.length := by
  induction L with
  | nil => rfl
  | cons c r ih =>
    rw [List.map_cons, List.map_cons, List.sum_cons, ih, List.length_cons]
    show 1 + r.length = _
    omega
/-! list or tuple -/
def Sq (K : PySem.W.Frag) (H : Hp) (a : Addr) (xs : List V) : Prop := SqL K H a xs ∨ SqT K H a xs
theorem sqt_same {K : PySem.W.Frag} {H H' : Hp} {a : Addr} {xs : List V} (s : Same H H') (h : SqT K H a xs) : SqT K H' a xs := by
  rcases h with h1 | h1
  · rcases h1 with h1 | ⟨o, h1⟩
    · exact .inl (.inl (s _ _ h1))
    · exact .inl (.inr ⟨o, s _ _ h1⟩)
  · exact .inr h1
theorem Sq.same {K : PySem.W.Frag} {H H' : Hp} {a : Addr} {xs : List V} (h : Sq K H a xs) (s : Same H H') : Sq K H' a xs := h.elim (fun h => .inl (s.seq h)) fun h => .inr (sqt_same s h)
theorem Sq.len {K : PySem.W.Frag} {H : Hp} {a : Addr} {xs : List V} (h : Sq K H a xs) : LenV K (V.ref a) H xs.length := h.elim (fun h => .inl ⟨_, h, rfl⟩) fun h => .inr ⟨_, h, rfl⟩
/-- a for over a list or a tuple that stands in a slot -/
theorem for_seq {K : PySem.W.Frag} {a : Addr} {xs : List V} {j : Nat} {g : TG} {tb : TS} {D : Ends} {σ : L2.St} {H H0 : Hp} (Pv : Nat → L2.St → Hp → Prop) (hj : σ[j]? = some (some (V.ref a))) (hS : Sq K H0 a xs) (sH : Same H0 H)
    (h0 : Pv 0 σ H) (hs : ∀ (i : Nat) (σ' : L2.St) (H' : Hp), i ≤ xs.length → Pv i σ' H' → Same H0 H')
    (hb : ∀ (i : Nat) (x : V) (σ : L2.St) (H : Hp), xs[i]? = some x → Pv i σ H → g x σ H fun σ2 H2 => tb { nx := Pv (i + 1), rt := D.rt, bk := D.nx, ct := Pv (i + 1) } σ2 H2) (hd : ∀ (σ : L2.St) (H : Hp), Pv xs.length σ H → D.nx σ H) :
    iSeq K (tVar j) σ H fun J H1 => ∃ W : Nat → Nat → L2.St → Hp → Prop, (∃ m, W 0 m σ H1) ∧ ∀ (i m : Nat) (σ : L2.St) (H : Hp), W i m σ H → (J.stop i H ∧ D.nx σ H) ∨ (J.go i H ∧ ∃ N : L2.St → Hp → Prop, (∀ (σ' : L2.St) (H' : Hp), N σ' H' → ∃ m', m' < m ∧ W (i + 1) m' σ' H') ∧
      ∀ (x : V) (H' : Hp), J.yld i H x H' → g x σ H' fun σ2 H2 => tb { nx := N, rt := D.rt, bk := D.nx, ct := N } σ2 H2) := by
  rcases hS with hS | hS
  · exact .inl ⟨_, hj, a, rfl, ⟨_, sH.seq hS⟩, for_list Pv h0 (fun i σ' H' hi hp => (hs i σ' H' hi hp).seq hS) hb hd⟩
  · exact .inr ⟨_, hj, a, rfl, ⟨_, sqt_same sH hS⟩, for_tup Pv h0 (fun i σ' H' hi hp => sqt_same (hs i σ' H' hi hp) hS) hb hd⟩
def encTs (ts : List Str) : List Int := vint ts.length ++ ts.flatMap encT
theorem encTs_len : ∀ (ts : List Str), (∀ t ∈ ts, t.length ≤ 400) → (ts.flatMap encT).length ≤ 500 * ts.length
  | [], _ => by simp
  | t :: r, h => by
    have := encTs_len r fun t ht => h t (List.mem_cons_of_mem _ ht)
    have h1 := h t List.mem_cons_self
    have h2 : (encT t).length ≤ 500 := by
      unfold encT
      rw [List.length_append, List.length_map, ← str_len]
      have := vint_len100 (n := (t.length : Int)) (Int.lt_of_le_of_lt (b := 100000) (by omega) (by decide +kernel))
      omega
    rw [List.flatMap_cons, List.length_append, List.length_cons]
    omega
theorem mem_str {ts : List Str} {i : Nat} {x : V} (hx : (ts.map V.str)[i]? = some x) : ∃ t, ts[i]? = some t ∧ x = V.str t := by
  rw [List.getElem?_map] at hx
  cases e : ts[i]? with
  | none => rw [e] at hx; cases hx
  | some u => rw [e] at hx; exact ⟨u, rfl, (Option.some.inj hx).symm⟩
def sp_encode_texts (T : Env K mg) : Sp := fun vs H Q E => ∃ (a : Addr) (ts : List Str), vs = [.ref a] ∧ Sq K H a (ts.map V.str) ∧ ts.length ≤ 400 ∧ (∀ t ∈ ts, t.length ≤ 400) ∧ ((∀ t ∈ ts, okT t) → ∀ p H', Same H H' → H p = none → Li H' p (encTs ts) → Q (.ref p) H') ∧ (¬ (∀ t ∈ ts, okT t) → ∀ H', Same H H' → E (.ref T.c_BadArgument) none H')
theorem ok_encode_texts (T : Env K mg) : FnOk P w K mg base (L2.CX P w) 3 T.a_encode_texts T.d_encode_texts ["texts"] (sp_encode_texts T) := by
  refine T.F_encode_texts.okX sc_encode_texts (fun vs H Q E h => by obtain ⟨_, _, rfl, _⟩ := h; rfl) (fun cdv A outer s H vs Q E hr h => ?_)
  obtain ⟨a, ts, rfl, hS, hl, hlt, h1, h2⟩ := h
  have hu64 := hu64_of hr
  have G_encode_number := ok_encode_number (P := P) (w := w) (base := base) T
  have G_encode_text := ok_encode_text (P := P) (w := w) (base := base) T
  refine ⟨_, (pss_cons (ps_set (i := 1) sc_encode_texts.nd rfl (Or.inl rfl) (pe_call G_encode_number (hr.mono (by decide)) rfl T.g_encode_number T.F_encode_number.kp T.b_encode_number .nil (passes_call (takes_of rfl rfl rfl rfl) (fun _ _ _ _ x => x)) (pa_cons (pe_callB call_len (by rfl) T.z_len (by decide +kernel) (pa_cons (pv 0) pa_nil)) pa_nil)))
      (pss_cons (ps_for (passes_of rfl) rfl (pi_seq (pv 0)) (pg_name (i := 2) sc_encode_texts.nd rfl (Or.inl rfl)) (pss_one (ps_expr (pe_bm PySem.F.plainAttrs_list PySem.F.slot_list_extend PySem.F.type_list_extend mt_extend (pv 1) (pa_cons (pe_call G_encode_text (hr.mono (by decide)) rfl T.g_encode_text T.F_encode_text.kp T.b_encode_text .nil (passes_call (takes_of rfl rfl rfl rfl) (fun _ _ _ _ x => x)) (pa_cons (pv 2) pa_nil)) pa_nil)))))
      (pss_one (ps_ret (pv 1))))), ?_⟩
  have hlen := hS.len
  rw [List.length_map] at hlen
  refine ⟨_, rfl, _, _, rfl, hlen, _, rfl, small_NB (by omega), fun _ p H1 s1 np hp => ?_, fun q => absurd q (by omega)⟩
  have hv := vint_len100 (small_NB (n := ts.length) (by omega))
  refine for_seq (a := a) (xs := ts.map V.str) (fun i σ H' => ∃ v2, σ = [some (.ref a), some (.ref p), v2] ∧ Same H H' ∧ (∀ t ∈ ts.take i, okT t) ∧ Li H' p (vint ts.length ++ (ts.take i).flatMap encT)) rfl hS s1 ⟨none, rfl, s1, fun c h => by simp at h, by simpa using hp⟩ (fun i σ H' _ ⟨_, _, h, _⟩ => h) ?_ ?_
  · rintro i x σ H' hx ⟨v2, rfl, sA, hok, hL⟩
    obtain ⟨t, ht, rfl⟩ := mem_str hx
    have hm := List.mem_of_getElem? ht
    have hi : i < ts.length := (List.getElem?_eq_some_iff.mp ht).1
    have hin := encTs_len (ts.take i) fun t h => hlt t (List.mem_of_mem_take h)
    rw [List.length_take] at hin
    refine ⟨_, rfl, .inl ⟨rfl, _, SqL.of hL⟩, _, rfl, t, rfl, by have := hlt t hm; omega, fun hk q H2 s2 nq hq => ?_, fun hk H2 s2 => h2 (fun z => hk (z t hm)) _ (sA.trans s2)⟩
    have het := encT_len (t := t) (by have := hlt t hm; omega)
    refine ⟨p, q, _, _, rfl, rfl, s2 _ _ hL, hq, (by rw [List.length_map, List.length_map, List.length_append]; exact szle (by omega)), ?_⟩
    refine ⟨_, rfl, same_mut (sA.trans s2) np, ?_, ?_⟩
    · rw [take_succ ht]
      intro d hd
      rcases List.mem_append.mp hd with z | z
      · exact hok d z
      · have : d = t := by simpa using z
        rw [this]
        exact hk
    · rw [take_succ ht, List.flatMap_append, ← List.append_assoc]
      show upd _ _ _ _ = _
      rw [upd_same, ← List.map_append]
      simp
  · rintro σ H' ⟨v2, rfl, sA, hok, hL⟩
    rw [List.length_map, List.take_length] at hok hL
    exact ⟨_, rfl, h1 hok p _ sA np hL⟩
def chr (d : Int) : Nat := AL.cps.toList.getD d.toNat 0
theorem al_len : AL.cps.toList.length = 38 := by decide +kernel
theorem al_ok : ∀ c ∈ AL.cps.toList, 0 ≤ codeI c := by decide +kernel
theorem chr_mem {d : Int} (h0 : 0 ≤ d) (h : d < 38) : chr d ∈ AL.cps.toList := by
  unfold chr
  rw [List.getD_eq_getElem?_getD, List.getElem?_eq_getElem (by rw [al_len]; omega)]
  exact List.getElem_mem _
theorem at_chr {d : Int} (h0 : 0 ≤ d) (h : d < 38) : atI AL.cps.toList d = some (chr d) := by
  have e : d = ((d.toNat : Nat) : Int) := by omega
  have k : AL.cps.toList[d.toNat]? = some (chr d) := by
    unfold chr
    rw [List.getD_eq_getElem?_getD, List.getElem?_eq_getElem (by rw [al_len]; omega)]
    rfl
  have := atI_nat k
  rw [← e] at this
  exact this
def ltxt (c : Int) (m : Nat) : Str := ⟨((draws c m 38).map chr).toArray⟩
theorem ltxt_len (c : Int) (m : Nat) : (ltxt c m).length = m := by
  rw [str_len]
  show ((draws c m 38).map chr).length = m
  rw [List.length_map, draws_len]
theorem ltxt_ok (c : Int) (m : Nat) : okT (ltxt c m) := by
  intro x hx
  have hx : x ∈ (draws c m 38).map chr := hx
  obtain ⟨d, hd, rfl⟩ := List.mem_map.mp hx
  have := draws_mem (c := c) (m := m) (l := 38) (by decide) d hd
  exact al_ok _ (chr_mem this.1 this.2)
abbrev sg (c : Nat) : Str := ⟨#[c]⟩
def sp__law_text (T : Env K mg) : Sp := fun vs H Q E => ∃ c m : Int, vs = [.int c, .int m] ∧ 0 ≤ m ∧ m ≤ 1000 ∧ ∀ H', Same H H' → Q (.str (ltxt c m.toNat)) H'
theorem ok__law_text (T : Env K mg) : FnOk P w K mg base (L2.CX P w) 2 T.a__law_text T.d__law_text ["cell", "many"] (sp__law_text T) := by
  refine T.F__law_text.okX sc__law_text (fun vs H Q E h => by obtain ⟨_, _, rfl, _⟩ := h; rfl) (fun cdv A outer s H vs Q E hr h => ?_)
  obtain ⟨c, m, rfl, hm, hm2, h1⟩ := h
  have hu64 := hu64_of hr
  have G__law_draws := ok__law_draws (P := P) (w := w) (base := base) T
  refine ⟨_, (pss_one (ps_ret (pe_join pe_str (pe_lc (own := [("code", 2)]) (by rfl) sc__law_text.nd (pi_list (pe_call G__law_draws (hr.mono (by decide)) rfl T.g__law_draws T.F__law_draws.kp T.b__law_draws .nil passL (pa_cons (pv 0) (pa_cons (pv 1) (pa_cons pe_int pa_nil))))) (blkOk_by (own := [("code", 2)]) (N := ["cell", "many", "code"]) (sc := defScope s__law_text) (by decide +kernel)) (fun _ _ _ _ _ => (pg_name (i := 2) sc__law_text.nd rfl (Or.inl rfl))) (fun _ _ _ _ _ => pts_nil) (fun _ _ _ _ _ => (pe_ix ix_str pe_str (pv 2) (fun _ _ => rfl))))))), ?_⟩
  refine ⟨⟨_, rfl⟩, _, rfl, _, rfl, c, m, 38, rfl, hm, by omega, by decide, by decide, fun p H1 s1 np hL => ?_⟩
  have hdl := draws_len c m.toNat 38
  refine ⟨p, rfl, ⟨_, SqL.of hL⟩, fun D hD => lc_list (K := K) (a := p) (xs := (draws c m.toNat 38).map V.int) (fun i H' => Same H1 H' ∧ H' D = some (.lst (((((draws c m.toNat 38).map chr).take i).map sg).map V.str))) ⟨same_new hD, upd_same⟩ (fun i H' _ h => SqL.of (h.1 _ _ hL)) ?_ ?_⟩
  · rintro i x H' hx ⟨hs, hl⟩
    obtain ⟨n, hn, rfl⟩ := mem_int hx
    have hi : i < (draws c m.toNat 38).length := (List.getElem?_eq_some_iff.mp hn).1
    have hmem := draws_mem (c := c) (m := m.toNat) (l := 38) (by decide) n (List.mem_of_getElem? hn)
    refine ⟨rfl, yes_if ?_⟩
    refine ⟨_, rfl, _, _, _, rfl, rfl, (by rw [str_len, al_len]; exact szle (by decide)), at_chr hmem.1 hmem.2, _, hl, szl (by rw [List.length_map, List.length_map, List.length_take, List.length_map]; omega), same_mut hs hD, ?_⟩
    rw [take_succ (show ((draws c m.toNat 38).map chr)[i]? = some (chr n) by rw [List.getElem?_map, hn]; rfl), List.map_append, List.map_append, upd_same]
    rfl
  · rintro H' ⟨hs, hl⟩
    rw [List.length_map, show (((draws c m.toNat 38).map chr).take (draws c m.toNat 38).length) = (draws c m.toNat 38).map chr from List.take_of_length_le (by rw [List.length_map]; exact Nat.le_refl _)] at hl
    refine ⟨_, _, ((draws c m.toNat 38).map chr).map sg, rfl, rfl, .inl (SqL.of hl), ?_, ?_⟩
    · have := sum_sg ((draws c m.toNat 38).map chr)
      show ((((draws c m.toNat 38).map chr).map fun c => (⟨#[c]⟩ : Str)).map (·.length)).sum + _ * 0 ≤ _
      rw [this, List.length_map]
      omega
    · show Q (.str (Txt.join Str.empty (((draws c m.toNat 38).map chr).map fun c => (⟨#[c]⟩ : Str)))) H'
      rw [join_sg]
      exact h1 _ (s1.trans (hs.trans (Same.refl _)))
/-! texts of the alphabet; lists of texts as data -/
def alT (t : Str) : Prop := ∀ c ∈ t.cps.toList, c ∈ AL.cps.toList
theorem alT.ok {t : Str} (h : alT t) : okT t := fun c hc => al_ok c (h c hc)
theorem al_small : ∀ c ∈ AL.cps.toList, c < 1114112 := by decide +kernel
theorem alT.strOk {t : Str} (h : alT t) : PyData.strOk t = true := by
  unfold PyData.strOk
  rw [Array.all_eq_true_iff_forall_mem]
  intro c hc
  exact decide_eq_true (al_small c (h c (Array.mem_toList_iff.mpr hc)))
theorem ltxt_al (c : Int) (m : Nat) : alT (ltxt c m) := by
  intro x hx
  have hx : x ∈ (draws c m 38).map chr := hx
  obtain ⟨d, hd, rfl⟩ := List.mem_map.mp hx
  have := draws_mem (c := c) (m := m) (l := 38) (by decide) d hd
  exact chr_mem this.1 this.2
def dStrs (ts : List Str) : PyData := .list (ts.map PyData.str)
theorem dp_all_strs {K : PySem.W.Frag} {H : Hp} : ∀ ts : List Str, DpAll K H (ts.map V.str) (ts.map PyData.str)
  | [] => .nil
  | n :: r => .cons (.str n) (dp_all_strs r)
theorem dp_strs {K : PySem.W.Frag} {H : Hp} {a : Addr} {ts : List Str} (h : SqL K H a (ts.map V.str)) : Dp K H (.ref a) (dStrs ts) := .lst h (dp_all_strs ts)
theorem good_strs : ∀ ts : List Str, (∀ t ∈ ts, alT t) → PyData.canLayAll0 (ts.map PyData.str) = true ∧ PyData.depthAll (ts.map PyData.str) = 0 ∧ PyData.eqvAll (ts.map PyData.str) (ts.map PyData.str) = true
  | [], _ => ⟨rfl, by rw [List.map_nil, PyData.depthAll], rfl⟩
  | t :: r, h => by
    obtain ⟨h1, h2, h3⟩ := good_strs r fun x hx => h x (List.mem_cons_of_mem _ hx)
    refine ⟨?_, ?_, ?_⟩
    · show (PyData.canLay0 (.str t) && PyData.canLayAll0 (r.map PyData.str)) = true
      rw [h1, show PyData.canLay0 (.str t) = true by unfold PyData.canLay0; exact (h t List.mem_cons_self).strOk]
      rfl
    · show PyData.depthAll (.str t :: r.map PyData.str) = 0
      rw [PyData.depthAll, h2, PyData.depth]
      rfl
    · show ((t == t) && PyData.eqvAll (r.map PyData.str) (r.map PyData.str)) = true
      rw [h3]
      simp
theorem shaped_strs {ts : List Str} (h : ∀ t ∈ ts, alT t) : SeqAt.shaped (dStrs ts) = true := by
  obtain ⟨h1, h2, _⟩ := good_strs ts h
  unfold SeqAt.shaped dStrs
  rw [show PyData.canLay0 (.list (ts.map PyData.str)) = true from by unfold PyData.canLay0; exact h1]
  have : PyData.depth (.list (ts.map PyData.str)) = 1 := by
    unfold PyData.depth
    rw [h2]
  rw [this]
  decide
theorem eqv_strs {ts : List Str} (h : ∀ t ∈ ts, alT t) : PyData.eqv (dStrs ts) (dStrs ts) = true := (good_strs ts h).2.2
theorem inV_str (k : Str) (ts : List Str) : inV (.str k) (ts.map V.str) = decide (k ∈ ts) := by
  unfold inV
  induction ts with
  | nil => simp
  | cons t r ih =>
    rw [List.map_cons, List.any_cons, ih]
    show ((t == k) || decide (k ∈ r)) = _
    by_cases e : t = k
    · subst e; simp
    · have e2 : ¬ k = t := fun q => e q.symm
      simp [e, e2]
theorem flat_strs (ts : List Str) : (ts.map V.str).all flatV = true := by
  induction ts with
  | nil => rfl
  | cons t r ih => rw [List.map_cons, List.all_cons, ih]; rfl
theorem cutS_len (z : Str) (lo hi : Option Int) : (cutS z lo hi).length ≤ z.length := by
  show (List.take _ (List.drop _ z.cps.toList)).length ≤ z.cps.toList.length
  rw [List.length_take, List.length_drop]
  omega
theorem app_len (a b : Str) : (a ++ b).length = a.length + b.length := by
  show (a.cps ++ b.cps).size = _
  rw [Array.size_append]
  rfl

--PART /work/steering/wip/parts/ascend.lean
/-! ### ascending texts -/
abbrev ltS (a b : Str) : Prop := a.cps.toList < b.cps.toList
theorem ltS_trans {a b c : Str} (h : ltS a b) (k : ltS b c) : ltS a c := List.lt_trans h k
theorem ltS_irrefl (a : Str) : ¬ ltS a a := List.lt_irrefl _
theorem str_ext {a b : Str} (h : a.cps.toList = b.cps.toList) : a = b := by
  obtain ⟨⟨x⟩⟩ := a
  obtain ⟨⟨y⟩⟩ := b
  have : x = y := h
  rw [this]
theorem ltS_of {a b : Str} (h : ¬ ltS b a) (n : a ≠ b) : ltS a b := Std.lt_of_le_of_ne h fun q => n (str_ext q)
theorem ltS_ne {b : Str} (h : ltS Str.empty b) : b ≠ Str.empty := fun q => ltS_irrefl _ (q ▸ h)
theorem ltS_empty {b : Str} (h : b ≠ Str.empty) : ltS Str.empty b := ltS_of (fun q => absurd q (List.not_lt_nil _)) (Ne.symm h)
def ascS : Str → List Str → Bool
  | _, [] => true
  | p, k :: r => decide (ltS p k) && ascS k r
theorem asc_pw : ∀ (p : Str) (ts : List Str), ascS p ts = true ↔ (p :: ts).Pairwise ltS
  | p, [] => by simp [ascS]
  | p, k :: r => by
    have ih := asc_pw k r
    show (decide (ltS p k) && ascS k r) = true ↔ _
    rw [Bool.and_eq_true, decide_eq_true_iff, ih]
    constructor
    · rintro ⟨h1, h2⟩
      exact List.pairwise_cons.mpr ⟨fun x hx => by
        rcases List.mem_cons.mp hx with e | e
        · rw [e]; exact h1
        · exact ltS_trans h1 ((List.pairwise_cons.mp h2).1 x e), h2⟩
    · intro h
      exact ⟨(List.pairwise_cons.mp h).1 k List.mem_cons_self, (List.pairwise_cons.mp h).2⟩
theorem rising_asc : ∀ (p : Str) (ys : List Str), risingS p ys = true → (p :: ys).Nodup → ascS p ys = true
  | _, [], _, _ => rfl
  | p, k :: r, h, hn => by
    have h : (!ltCps k.cps.toList p.cps.toList && risingS k r) = true := h
    rw [Bool.and_eq_true, ltCps_eq] at h
    have h1 : ¬ ltS k p := by simpa using h.1
    have hn2 := List.nodup_cons.mp hn
    show (decide (ltS p k) && ascS k r) = true
    rw [Bool.and_eq_true, decide_eq_true_iff]
    exact ⟨ltS_of h1 fun q => hn2.1 (q ▸ List.mem_cons_self), rising_asc k r h.2 hn2.2⟩
theorem sorted_asc {ys : List Str} (h : sortedS ys = true) (hn : ys.Nodup) (he : Str.empty ∉ ys) : ascS Str.empty ys = true := by
  cases ys with
  | nil => rfl
  | cons k r =>
    have h : risingS k r = true := h
    show (decide (ltS Str.empty k) && ascS k r) = true
    rw [Bool.and_eq_true, decide_eq_true_iff]
    exact ⟨ltS_empty fun q => he (q ▸ List.mem_cons_self), rising_asc k r h hn⟩
def sp__are_ascending (T : Env K mg) : Sp := fun vs H Q E => ∃ (a : Addr) (ts : List Str), vs = [.ref a] ∧ Sq K H a (ts.map V.str) ∧ Q (.bl (ascS Str.empty ts)) H
theorem ok__are_ascending (T : Env K mg) : FnOk P w K mg base (L2.CX P w) 1 T.a__are_ascending T.d__are_ascending ["keys"] (sp__are_ascending T) := by
  refine T.F__are_ascending.okX sc__are_ascending (fun vs H Q E h => by obtain ⟨_, _, rfl, _⟩ := h; rfl) (fun cdv A outer s H vs Q E hr h => ?_)
  obtain ⟨a, ts, rfl, hS, h1⟩ := h
  refine ⟨_, (pss_cons (ps_set (i := 1) sc__are_ascending.nd rfl (Or.inl rfl) pe_str)
      (pss_cons (ps_for (passes_of rfl) rfl (pi_seq (pv 0)) (pg_name (i := 2) sc__are_ascending.nd rfl (Or.inl rfl)) (pss_cons (ps_if (pt_cmpR op_le_str (pv 2) (pv 1) (nomark _)) (pss_one (ps_ret pe_bl)) pss_nil)
      (pss_one (ps_set (i := 1) sc__are_ascending.nd rfl (Or.inl rfl) (pv 2)))))
      (pss_one (ps_ret pe_bl)))), ?_⟩
  refine for_seq (a := a) (xs := ts.map V.str) (fun i σ H' => ∃ p v2, σ = [some (.ref a), some (.str p), v2] ∧ H' = H ∧ ascS Str.empty ts = ascS p (ts.drop i)) rfl hS (Same.refl _) ⟨Str.empty, none, rfl, rfl, rfl⟩ (fun i σ H' _ ⟨_, _, _, h, _⟩ => h ▸ Same.refl _) ?_ ?_
  · rintro i x σ H' hx ⟨p, v2, rfl, rfl, he⟩
    obtain ⟨t, ht, rfl⟩ := mem_str hx
    have hd : ts.drop i = t :: ts.drop (i + 1) := by
      have hi : i < ts.length := (List.getElem?_eq_some_iff.mp ht).1
      rw [List.drop_eq_getElem_cons hi]
      rw [List.getElem?_eq_getElem hi] at ht
      rw [Option.some.inj ht]
    rw [hd] at he
    have he : ascS Str.empty ts = (decide (ltS p t) && ascS t (ts.drop (i + 1))) := he
    refine ⟨_, rfl, _, rfl, _, _, rfl, rfl, _, rfl, ?_⟩
    by_cases k : ltS p t
    · refine ifF (by rw [decide_eq_true k]; rfl) ?_
      rw [decide_eq_true k, Bool.true_and] at he
      exact ⟨_, rfl, _, _, rfl, rfl, he⟩
    · refine ifT (by rw [decide_eq_false k]; rfl) ?_
      rw [decide_eq_false k, Bool.false_and] at he
      rw [he] at h1
      exact h1
  · rintro σ H' ⟨p, v2, rfl, rfl, he⟩
    rw [List.length_map, List.drop_length] at he
    have he : ascS Str.empty ts = true := he
    rw [he] at h1
    exact h1
def sp_encode_keys (T : Env K mg) : Sp := fun vs H Q E => ∃ (a : Addr) (ts : List Str), vs = [.ref a] ∧ Sq K H a (ts.map V.str) ∧ ts.length ≤ 400 ∧ (∀ t ∈ ts, t.length ≤ 400) ∧
  (ascS Str.empty ts = true ∧ (∀ t ∈ ts, okT t) → ∀ p H', Same H H' → H p = none → Li H' p (encTs ts) → Q (.ref p) H') ∧ (¬ (ascS Str.empty ts = true ∧ ∀ t ∈ ts, okT t) → ∀ H', Same H H' → E (.ref T.c_BadArgument) none H')
theorem ok_encode_keys (T : Env K mg) : FnOk P w K mg base (L2.CX P w) 4 T.a_encode_keys T.d_encode_keys ["keys"] (sp_encode_keys T) := by
  refine T.F_encode_keys.okX sc_encode_keys (fun vs H Q E h => by obtain ⟨_, _, rfl, _⟩ := h; rfl) (fun cdv A outer s H vs Q E hr h => ?_)
  obtain ⟨a, ts, rfl, hS, hl, hlt, h1, h2⟩ := h
  have hu64 := hu64_of hr
  have G_encode_texts := ok_encode_texts (P := P) (w := w) (base := base) T
  have G__are_ascending := ok__are_ascending (P := P) (w := w) (base := base) T
  refine ⟨_, (pss_cons (ps_if (pt_not (pt_val (pe_call G__are_ascending (hr.mono (by decide)) rfl T.g__are_ascending T.F__are_ascending.kp T.b__are_ascending .nil (passes_call (takes_of rfl rfl rfl rfl) (fun _ _ _ _ x => x)) (pa_cons (pv 0) pa_nil)))) (pss_one (ps_raise rfl (takes_of rfl rfl rfl rfl) (pmk_own PySem.F.excBase_ValueError T.e_BadArgument.xP T.e_BadArgument.gC T.e_BadArgument.kC (raises_own T.e_BadArgument.bP T.e_BadArgument.tP) (by exact rfl)))) pss_nil)
      (pss_one (ps_ret (pe_call G_encode_texts (hr.mono (by decide)) rfl T.g_encode_texts T.F_encode_texts.kp T.b_encode_texts .nil (passes_call (takes_of rfl rfl rfl rfl) (fun _ _ _ _ x => x)) (pa_cons (pv 0) pa_nil))))), ?_⟩
  refine ⟨_, rfl, a, ts, rfl, hS, _, rfl, ?_⟩
  cases ha : ascS Str.empty ts with
  | false => exact ifT rfl (h2 (fun q => by rw [ha] at q; exact Bool.noConfusion q.1) _ (Same.refl _))
  | true => exact ifF rfl ⟨_, rfl, a, ts, rfl, hS, hl, hlt, fun hk p H' s np hL => h1 ⟨ha, hk⟩ p H' s np hL, fun hk H' s => h2 (fun q => hk q.2) H' s⟩

--PART /work/steering/wip/parts/k59.lean
def sp_check_cuts (T : Env K mg) : Sp := fun vs H Q E => ∃ (a : Addr) (ts : List Str), vs = [.ref a] ∧ Sq K H a (ts.map V.str) ∧ ts.length ≤ 400 ∧ (∀ t ∈ ts, t.length ≤ 400) ∧
  (ascS Str.empty ts = true ∧ (∀ t ∈ ts, okT t) → ∀ H', Same H H' → Q .non H') ∧ (¬ (ascS Str.empty ts = true ∧ ∀ t ∈ ts, okT t) → ∀ H', Same H H' → E (.ref T.c_BadArgument) none H')
theorem ok_check_cuts (T : Env K mg) : FnOk P w K mg base (L2.CX P w) 5 T.a_check_cuts T.d_check_cuts ["cuts"] (sp_check_cuts T) := by
  refine T.F_check_cuts.okX sc_check_cuts (fun vs H Q E h => by obtain ⟨_, _, rfl, _⟩ := h; rfl) (fun cdv A outer s H vs Q E hr h => ?_)
  obtain ⟨a, ts, rfl, hS, hl, hlt, h1, h2⟩ := h
  have hu64 := hu64_of hr
  have G_encode_keys := ok_encode_keys (P := P) (w := w) (base := base) T
  refine ⟨_, (pss_one (ps_expr (pe_call G_encode_keys (hr.mono (by decide)) rfl T.g_encode_keys T.F_encode_keys.kp T.b_encode_keys .nil (passes_call (takes_of rfl rfl rfl rfl) (fun _ _ _ _ x => x)) (pa_cons (pv 0) pa_nil)))), ?_⟩
  exact ⟨_, rfl, a, ts, rfl, hS, hl, hlt, fun hk p H' s np hL => h1 hk H' s, fun hk H' s => h2 hk H' s⟩
def sp_group_of_key (T : Env K mg) : Sp := fun vs H Q E => ∃ (a : Addr) (ts : List Str) (k : Str), vs = [.ref a, .str k] ∧ SqL K H a (ts.map V.str) ∧ ts.length ≤ 400 ∧ ∀ H', Same H H' → Q (.int (ts.filter fun t => !decide (ltS k t)).length) H'
theorem ok_group_of_key (T : Env K mg) : FnOk P w K mg base (L2.CX P w) 1 T.a_group_of_key T.d_group_of_key ["cuts", "key"] (sp_group_of_key T) := by
  refine T.F_group_of_key.okX sc_group_of_key (fun vs H Q E h => by obtain ⟨_, _, _, rfl, _⟩ := h; rfl) (fun cdv A outer s H vs Q E hr h => ?_)
  obtain ⟨a, ts, k, rfl, hS, hl, h1⟩ := h
  refine ⟨_, (pss_one (ps_ret (pe_callB call_len (by rfl) T.z_len (by decide +kernel) (pa_cons (pe_lc (own := [("cut", 2)]) (by rfl) sc_group_of_key.nd (pi_list (pv 0)) (blkOk_by (own := [("cut", 2)]) (N := ["cuts", "key", "cut"]) (sc := defScope s_group_of_key) (by decide +kernel)) (fun _ _ _ _ _ => (pg_name (i := 2) sc_group_of_key.nd rfl (Or.inl rfl))) (fun _ _ _ _ _ => (pts_one (pt_cmpR op_le_str (pv 2) (pv 1) (nomark _)))) (fun _ _ _ _ _ => (pv 2))) pa_nil)))), ?_⟩
  refine ⟨_, rfl, a, rfl, ⟨_, hS⟩, fun D hD => lc_list (K := K) (a := a) (xs := ts.map V.str) (fun i H' => Same H H' ∧ H' D = some (.lst (((ts.take i).filter fun t => !decide (ltS k t)).map V.str))) ⟨same_new hD, upd_same⟩ (fun i H' _ h => h.1.seq hS) ?_ ?_⟩
  · rintro i x H' hx ⟨sA, hp⟩
    obtain ⟨t, ht, rfl⟩ := mem_str hx
    have hi : i < ts.length := (List.getElem?_eq_some_iff.mp ht).1
    have hf := List.length_filter_le (fun t => !decide (ltS k t)) (ts.take i)
    rw [List.length_take] at hf
    refine ⟨rfl, _, rfl, _, rfl, _, _, rfl, rfl, ?_⟩
    by_cases c : ltS k t
    · refine ⟨_, rfl, ifF (by rw [decide_eq_true c]; rfl) ⟨sA, ?_⟩⟩
      rw [take_succ ht, List.filter_append, show [t].filter (fun t => !decide (ltS k t)) = [] by rw [List.filter_cons, decide_eq_true c]; rfl, List.append_nil]
      exact hp
    · refine ⟨_, rfl, ifT (by rw [decide_eq_false c]; rfl) ⟨_, rfl, _, hp, szl (by rw [List.length_map]; omega), same_mut sA hD, ?_⟩⟩
      rw [take_succ ht, List.filter_append, show [t].filter (fun t => !decide (ltS k t)) = [t] by rw [List.filter_cons, decide_eq_false c]; rfl, upd_same, List.map_append]
      rfl
  · rintro H' ⟨sA, hp⟩
    rw [List.length_map, List.take_length] at hp
    exact ⟨_, _, rfl, .inl ⟨_, SqL.of hp, by rw [List.length_map]⟩, h1 _ sA⟩

--PART /work/steering/wip/parts/k59b.lean
def sp__law_refused (T : Env K mg) : Sp := fun vs H Q E => ∃ (a : Addr) (ts : List Str), vs = [.ref a] ∧ SqL K H a (ts.map V.str) ∧ ts.length ≤ 400 ∧ (∀ t ∈ ts, t.length ≤ 400) ∧ ¬ (ascS Str.empty ts = true ∧ ∀ t ∈ ts, okT t) ∧ ∀ H', Same H H' → Q (.bl true) H'
theorem ok__law_refused (T : Env K mg) : FnOk P w K mg base (L2.CX P w) 6 T.a__law_refused T.d__law_refused ["fences"] (sp__law_refused T) := by
  refine T.F__law_refused.okX sc__law_refused (fun vs H Q E h => by obtain ⟨_, _, rfl, _⟩ := h; rfl) (fun cdv A outer s H vs Q E hr h => ?_)
  obtain ⟨a, ts, rfl, hS, hl, hlt, hn, h1⟩ := h
  have hu64 := hu64_of hr
  have G_check_cuts := ok_check_cuts (P := P) (w := w) (base := base) T
  refine ⟨_, (pss_cons (ps_try_only rfl rfl ⟨rfl, by decide, .inl T.e_BadArgument.gC⟩ takes0 (fun W pn xe tk po => (pss_one (ps_expr (pe_callS G_check_cuts (hr.mono (by decide)) rfl T.g_check_cuts T.F_check_cuts.kp T.b_check_cuts (fun σ => passAt tk σ) (pa_cons (pv 0) pa_nil))))) (fun a oe cls d pn hz hf => (pss_one (ps_ret pe_bl))))
      (pss_one (ps_ret pe_bl))), ?_⟩
  exact ⟨_, rfl, a, ts, rfl, .inl hS, hl, hlt, fun c => absurd c hn, fun _ H1 s1 => ⟨true, T.u_BadArgument_BadArgument, fun _ y _ => h1 _ s1, fun q => Bool.noConfusion q⟩⟩
def spLaw (K : PySem.W.Frag) : Sp := fun vs H Q _ => ∃ (a : Addr) (ns : List Int), vs = [.ref a] ∧ SqL K H a (ns.map V.int) ∧ ns.length ≤ 63 ∧ ∀ H', Q (.bl true) H'
def sp_law (T : Env K mg) : Sp := spLaw K
theorem asc_dup {ys : List Str} {t : Str} (h : t ∈ ys) : ¬ ascS Str.empty (ys ++ [t]) = true := by
  intro q
  have q := (List.pairwise_cons.mp ((asc_pw _ _).mp q)).2
  exact ltS_irrefl t ((List.pairwise_append.mp q).2.2 t h t (by simp))
theorem asc_hole {ys : List Str} (h : Str.empty ∈ ys) : ¬ ascS Str.empty ys = true := fun q => ltS_irrefl _ ((List.pairwise_cons.mp ((asc_pw _ _).mp q)).1 _ h)
theorem asc_turn {ys : List Str} (h : ascS Str.empty ys = true) (hl : 2 ≤ ys.length) : ¬ ascS Str.empty (ys.drop 1 ++ ys.take 1) = true := by
  match ys, hl with
  | a :: b :: r, _ =>
    intro q
    have h := (List.pairwise_cons.mp ((asc_pw _ _).mp h)).2
    have q := (List.pairwise_cons.mp ((asc_pw _ _).mp q)).2
    have h1 := (List.pairwise_cons.mp h).1 b List.mem_cons_self
    have q1 := (List.pairwise_append.mp q).2.2 b List.mem_cons_self a (by simp)
    exact ltS_irrefl _ (ltS_trans h1 q1)
theorem not_ok_bar (t : Str) : ¬ okT (t ++ ("_" : Str)) := by
  intro h
  have : (95 : Nat) ∈ (t ++ ("_" : Str)).cps.toList := by
    show 95 ∈ (t.cps ++ ("_" : Str).cps).toList
    rw [Array.toList_append]
    exact List.mem_append_right _ (by decide +kernel)
  have h2 := h 95 this
  have h3 : ¬ 0 ≤ codeI 95 := by decide +kernel
  exact h3 h2
theorem ok_law (T : Env K mg) : FnOk P w K mg base CX0 9 T.a_law T.d_law ["script"] (sp_law T) := by
  refine T.F_law.ok sc_law (fun vs H Q E h => by obtain ⟨_, _, rfl, _⟩ := h; rfl) (fun cdv A outer s H vs Q E hr h => ?_)
  obtain ⟨a, ns, rfl, hS, hlen, h1⟩ := h
  have hu64 := hu64_of hr
  have G__law_text := ok__law_text (P := P) (w := w) (base := base) T
  have G_group_of_key := ok_group_of_key (P := P) (w := w) (base := base) T
  have G__law_refused := ok__law_refused (P := P) (w := w) (base := base) T
  have G__law_cell := ok__law_cell (P := P) (w := w) (base := base) T
  have G_check_cuts := ok_check_cuts (P := P) (w := w) (base := base) T
  have G__law_is_int := ok__law_is_int (P := P) (w := w) (base := base) T
  refine ⟨_, (pss_cons (ps_set (i := 1) sc_law.nd rfl (Or.inl rfl) (pe_lst pa_nil))
      (pss_cons (ps_for PassesOwn.never rfl (pi_range1 rfl T.z_range (pa_cons (pe_op op_mod (pe_callTy call_int1 (by rfl) T.z_int (by decide +kernel) (pa_cons (pe_call G__law_cell (hr.mono (by decide)) rfl T.g__law_cell T.F__law_cell.kp T.b__law_cell .nil passL (pa_cons (pv 0) (pa_cons pe_int pa_nil))) pa_nil)) pe_int) pa_nil)) (pg_name (i := 2) sc_law.nd rfl (Or.inl rfl)) (pss_cons (ps_set (i := 3) sc_law.nd rfl (Or.inr rfl) (pe_call G__law_text (hr.mono (by decide)) rfl T.g__law_text T.F__law_text.kp T.b__law_text .nil passL (pa_cons (pe_call G__law_cell (hr.mono (by decide)) rfl T.g__law_cell T.F__law_cell.kp T.b__law_cell .nil passL (pa_cons (pv 0) (pa_cons (pe_op op_add (pv 2) pe_int) pa_nil))) (pa_cons (pe_op op_add pe_int (pe_op op_mod (pe_callTy call_int1 (by rfl) T.z_int (by decide +kernel) (pa_cons (pe_call G__law_cell (hr.mono (by decide)) rfl T.g__law_cell T.F__law_cell.kp T.b__law_cell .nil passL (pa_cons (pv 0) (pa_cons (pe_op op_add (pv 2) pe_int) pa_nil))) pa_nil)) pe_int)) pa_nil))))
      (pss_one (ps_if (pt_cmpR op_notIn_seq (pv 3) (pv 1) rfl) (pss_one (ps_expr (pe_bm PySem.F.plainAttrs_list PySem.F.slot_list_append PySem.F.type_list_append mt_append (pv 1) (pa_cons (pv 3) pa_nil)))) pss_nil))))
      (pss_cons (ps_set (i := 1) sc_law.nd rfl (Or.inl rfl) (pe_callB cr_sortedS (by rfl) T.z_sorted (by decide +kernel) (pa_cons (pv 1) pa_nil)))
      (pss_cons (ps_if (PW.pt (pw_or (pt_cmpR op_notN (pe_call G_check_cuts (hr.mono (by decide)) rfl T.g_check_cuts T.F_check_cuts.kp T.b_check_cuts .nil passL (pa_cons (pe_callTy call_list_of (by rfl) T.z_list (by decide +kernel) (pa_cons (pv 1) pa_nil)) pa_nil)) pe_non (nomark _)) (pw_or1 (pt_cmpR op_notN (pe_call G_check_cuts (hr.mono (by decide)) rfl T.g_check_cuts T.F_check_cuts.kp T.b_check_cuts .nil passL (pa_cons (pe_callTy call_tuple_of (by rfl) T.z_tuple (by decide +kernel) (pa_cons (pv 1) pa_nil)) pa_nil)) pe_non (nomark _))))) (pss_one (ps_ret pe_bl)) pss_nil)
      (pss_cons (ps_set (i := 4) sc_law.nd rfl (Or.inl rfl) (pe_lst (pa_cons pe_str (pa_cons pe_str (pa_cons (pe_call G__law_text (hr.mono (by decide)) rfl T.g__law_text T.F__law_text.kp T.b__law_text .nil passL (pa_cons (pe_call G__law_cell (hr.mono (by decide)) rfl T.g__law_cell T.F__law_cell.kp T.b__law_cell .nil passL (pa_cons (pv 0) (pa_cons pe_int pa_nil))) (pa_cons pe_int pa_nil))) pa_nil)))))
      (pss_cons (ps_for PassesOwn.never rfl (pi_list (pv 1)) (pg_name (i := 5) sc_law.nd rfl (Or.inl rfl)) (pss_cons (ps_set (i := 4) sc_law.nd rfl (Or.inl rfl) (pe_op op_cat (pv 4) (pe_lst (pa_cons (pv 5) (pa_cons (pe_op op_add_str (pv 5) pe_str) (pa_cons (pe_op op_add_str (pe_slice sl_str (pv 5) po_none (po_some (pe_un un_neg pe_int))) pe_str) (pa_cons (pe_op op_add_str (pe_slice sl_str (pv 5) po_none (po_some (pe_un un_neg pe_int))) pe_str) pa_nil)))))))
      (pss_one (ps_if (PW.pt (pw_or (pt_not (pt_val (pe_call G__law_refused (hr.mono (by decide)) rfl T.g__law_refused T.F__law_refused.kp T.b__law_refused .nil passL (pa_cons (pe_op op_cat (pv 1) (pe_lst (pa_cons (pv 5) pa_nil))) pa_nil)))) (pw_or1 (pt_not (pt_val (pe_call G__law_refused (hr.mono (by decide)) rfl T.g__law_refused T.F__law_refused.kp T.b__law_refused .nil passL (pa_cons (pe_op op_cat (pv 1) (pe_lst (pa_cons (pe_op op_add_str (pv 5) pe_str) pa_nil))) pa_nil))))))) (pss_one (ps_ret pe_bl)) pss_nil))))
      (pss_cons (ps_for PassesOwn.never rfl (pi_list (pv 4)) (pg_name (i := 3) sc_law.nd rfl (Or.inr rfl)) (pss_cons (ps_set (i := 6) sc_law.nd rfl (Or.inl rfl) (pe_callTy call_list_of (by rfl) T.z_list (by decide +kernel) (pa_cons (pv 1) pa_nil)))
      (pss_cons (ps_set (i := 7) sc_law.nd rfl (Or.inl rfl) (pe_call G_group_of_key (hr.mono (by decide)) rfl T.g_group_of_key T.F_group_of_key.kp T.b_group_of_key .nil passL (pa_cons (pv 6) (pa_cons (pv 3) pa_nil))))
      (pss_one (ps_if (PW.pt (pw_or (pt_not (pt_val (pe_call G__law_is_int (hr.mono (by decide)) rfl T.g__law_is_int T.F__law_is_int.kp T.b__law_is_int .nil passL (pa_cons (pv 7) pa_nil)))) (pw_or (pt_cmpR op_ne (pv 7) (pe_callB call_len (by rfl) T.z_len (by decide +kernel) (pa_cons (pe_lc (own := [("fence", 5)]) (by rfl) sc_law.nd (pi_list (pv 1)) (blkOk_by (own := [("fence", 5)]) (N := ["script", "fences", "k", "key", "keys", "fence", "given", "actual", "at"]) (sc := defScope s_law) (by decide +kernel)) (fun _ _ _ _ _ => (pg_name (i := 5) sc_law.nd rfl (Or.inl rfl))) (fun _ _ _ _ _ => (pts_one (pt_cmpR op_le_str (pv 5) (pv 3) (nomark _)))) (fun _ _ _ _ _ => (pv 5))) pa_nil)) (nomark _)) (pw_or1 (pt_cmpR (op_neD hu64) (pv 6) (pv 1) (nomark _)))))) (pss_one (ps_ret pe_bl)) pss_nil)))))
      (pss_cons (ps_set (i := 8) sc_law.nd rfl (Or.inl rfl) (pe_op op_mod (pe_callTy call_int1 (by rfl) T.z_int (by decide +kernel) (pa_cons (pe_call G__law_cell (hr.mono (by decide)) rfl T.g__law_cell T.F__law_cell.kp T.b__law_cell .nil passL (pa_cons (pv 0) (pa_cons pe_int pa_nil))) pa_nil)) (pe_op op_add (pe_callB call_len (by rfl) T.z_len (by decide +kernel) (pa_cons (pv 1) pa_nil)) pe_int)))
      (pss_one (ps_ret (pe_and (pe_call G__law_refused (hr.mono (by decide)) rfl T.g__law_refused T.F__law_refused.kp T.b__law_refused .nil passL (pa_cons (pe_op op_cat (pe_op op_cat (pe_slice sl_list (pv 1) po_none (po_some (pv 8))) (pe_lst (pa_cons pe_str pa_nil))) (pe_slice sl_list (pv 1) (po_some (pv 8)) po_none)) pa_nil)) (pe_one (pe_or (pe_cmpR op_lt (pe_callB call_len (by rfl) T.z_len (by decide +kernel) (pa_cons (pv 1) pa_nil)) pe_int (nomark _)) (pe_one (pe_call G__law_refused (hr.mono (by decide)) rfl T.g__law_refused T.F__law_refused.kp T.b__law_refused .nil passL (pa_cons (pe_op op_cat (pe_slice sl_list (pv 1) (po_some pe_int) po_none) (pe_slice sl_list (pv 1) po_none (po_some pe_int))) pa_nil)))))))))))))))), ?_⟩
  refine ⟨Nat.zero_le _, fun pf npf => ?_⟩
  have s0 := same_new (o := .lst []) npf
  refine ⟨_, rfl, a, ns, 0, rfl, s0.seq hS, by decide, .inl ⟨_, rfl, _, _, rfl, rfl, by show (0 : Int) < _; decide, _, rfl, by omega, by omega, ?_⟩⟩
  refine for_range (n := (cell ns 0 % 5).toNat) (fun i σ H' => ∃ v2 v3, ∃ ts : List Str, σ = [some (.ref a), some (.ref pf), v2, v3, none, none, none, none, none] ∧ Same H H' ∧ H' pf = some (.lst (ts.map V.str)) ∧ ts.length ≤ i ∧ ts.Nodup ∧ ∀ t ∈ ts, alT t ∧ 1 ≤ t.length ∧ t.length ≤ 4) ⟨none, none, [], rfl, s0, upd_same, Nat.le_refl _, List.nodup_nil, fun t h => by simp at h⟩ ?_ ?_
  · rintro i σ H1 hi ⟨v2, v3, ts, rfl, sA, hL, hl, hn, ht⟩
    refine ⟨_, rfl, _, rfl, _, _, rfl, rfl, a, ns, _, rfl, sA.seq hS, by omega, _, rfl, _, rfl, _, _, rfl, rfl, a, ns, _, rfl, sA.seq hS, by omega, .inl ⟨_, rfl, _, _, rfl, rfl, by show (0 : Int) < _; decide, _, _, rfl, rfl, _, _, rfl, by omega, by omega, fun H2 s2 => ?_⟩⟩
    have hcm := cell_nn ns (0 + (i : Int) + 1)
    obtain ⟨m, hm, hm1, hm4⟩ : ∃ m : Nat, (1 + cell ns (0 + (i : Int) + 1) % 4).toNat = m ∧ 1 ≤ m ∧ m ≤ 4 := ⟨_, rfl, by omega, by omega⟩
    have hta := ltxt_al (cell ns (0 + (i : Int) + 1)) m
    have htl := ltxt_len (cell ns (0 + (i : Int) + 1)) m
    rw [hm]
    generalize ltxt (cell ns (0 + (i : Int) + 1)) m = t at hta htl
    have hL2 := s2 _ _ hL
    refine ⟨_, rfl, _, rfl, pf, ts.map V.str, rfl, .inl (SqL.of hL2), rfl, flat_strs ts, _, rfl, ?_⟩
    rw [inV_str]
    by_cases c : t ∈ ts
    · refine ifF (by rw [decide_eq_true c]; rfl) ⟨_, _, ts, rfl, sA.trans s2, hL2, by omega, hn, ht⟩
    · refine ifT (by rw [decide_eq_false c]; rfl) ⟨_, rfl, .inl ⟨rfl, _, SqL.of hL2⟩, _, rfl, _, _, _, rfl, rfl, hL2, szl (by rw [List.length_map]; omega), ?_⟩
      refine ⟨_, _, ts ++ [t], rfl, same_mut (sA.trans s2) npf, by rw [upd_same, List.map_append]; rfl, by rw [List.length_append]; show ts.length + 1 ≤ _; omega, ?_, ?_⟩
      · exact List.nodup_append.mpr ⟨hn, by simp, fun x hx y hy => by
          have : y = t := by simpa using hy
          rw [this]
          exact fun q => c (q ▸ hx)⟩
      · intro x hx
        rcases List.mem_append.mp hx with z | z
        · exact ht x z
        · have : x = t := by simpa using z
          rw [this]
          exact ⟨hta, by omega, by omega⟩
  rintro σ H1 ⟨v2, v3, ts, rfl, s1, hL, hl, hn, ht⟩
  have hl4 : ts.length ≤ 4 := by omega
  clear hl
  refine ⟨_, rfl, pf, ts, rfl, SqL.of hL, by omega, fun ys p hperm hsort np => ?_⟩
  have hyl : ys.length ≤ 4 := by rw [hperm.length_eq]; exact hl4
  have hyt : ∀ t ∈ ys, alT t ∧ 1 ≤ t.length ∧ t.length ≤ 4 := fun t h => ht t (hperm.mem_iff.mp h)
  have hasc : ascS Str.empty ys = true := sorted_asc hsort (hperm.nodup_iff.mpr hn) fun q => by
    have := (hyt _ q).2.1
    exact absurd this (by decide)
  have hok : ∀ t ∈ ys, okT t := fun t h => (hyt t h).1.ok
  have hyal : ∀ t ∈ ys, alT t := fun t h => (hyt t h).1
  have hyll : ∀ t ∈ ys, t.length ≤ 400 := fun t h => by have := (hyt t h).2.2; omega
  have s2 := s1.trans (same_new (o := .lst (ys.map V.str)) np)
  have hP : upd H1 p (.lst (ys.map V.str)) p = some (.lst (ys.map V.str)) := upd_same
  show tSeq _ _ _ _ (upd H1 p (.lst (ys.map V.str)))
  generalize upd H1 p (.lst (ys.map V.str)) = H2 at s2 hP
  clear hperm hsort hn ht hL s1
  refine ⟨_, rfl, p, _, rfl, .inl (SqL.of hP), fun q nq => ⟨q, ys, rfl, .inl (SqL.of upd_same), by omega, hyll, fun _ H3 s3 => ?_, fun c => absurd ⟨hasc, hok⟩ c⟩⟩
  have s23 := (same_new (o := .lst (ys.map V.str)) nq).trans s3
  have hP3 := s23 _ _ hP
  refine ⟨rfl, _, rfl, ifF (by simp) ?_⟩
  refine ⟨_, rfl, p, _, rfl, .inl ⟨SqL.of hP3, fun q2 nq2 => ⟨q2, ys, rfl, .inr (SqT.of upd_same), by omega, hyll, fun _ H4 s4 => ?_, fun c => absurd ⟨hasc, hok⟩ c⟩⟩⟩
  have s34 := (same_new (o := .tup (ys.map V.str)) nq2).trans s4
  have hP4 := s34 _ _ hP3
  refine ⟨rfl, _, rfl, ifF (by simp) ?_⟩
  have sH4 := s2.trans (s23.trans s34)
  clear s23 s34 s3 s4 hP3 hP
  -- keys
  refine ⟨_, rfl, a, ns, 6, rfl, sH4.seq hS, by decide, cell ns 6, 3, rfl, by decide, by decide, fun H5 s5 => ⟨(by show 3 ≤ sizeLine; decide), fun pk npk => ?_⟩⟩
  have sk := same_new (o := .lst ([("a" : Str), "0", ltxt (cell ns 6) (3 : Int).toNat].map V.str)) npk
  have hP6 := sk _ _ (s5 _ _ hP4)
  have sH6 := sH4.trans (s5.trans sk)
  have hK : upd H5 pk (.lst ([("a" : Str), "0", ltxt (cell ns 6) (3 : Int).toNat].map V.str)) pk = some (.lst ([("a" : Str), "0", ltxt (cell ns 6) (3 : Int).toNat].map V.str)) := upd_same
  show tSeq _ _ _ _ (upd H5 pk (.lst ([("a" : Str), "0", ltxt (cell ns 6) (3 : Int).toNat].map V.str)))
  generalize upd H5 pk (.lst ([("a" : Str), "0", ltxt (cell ns 6) (3 : Int).toNat].map V.str)) = H6 at hP6 sH6 hK
  refine ⟨_, rfl, p, rfl, ⟨_, SqL.of hP6⟩, ?_⟩
  refine for_list (K := K) (a := p) (xs := ys.map V.str) (fun i σ H' => ∃ v3 v5 pk, ∃ L : List Str, σ = [some (.ref a), some (.ref p), v2, v3, some (.ref pk), v5, none, none, none] ∧ Same H6 H' ∧ H' pk = some (.lst (L.map V.str)) ∧ L.length ≤ 3 + 4 * i) ⟨v3, none, pk, _, rfl, Same.refl _, hK, Nat.le_refl _⟩ (fun i σ H' _ ⟨_, _, _, _, _, h, _⟩ => SqL.of (h _ _ hP6)) ?_ ?_
  · rintro i x σ H7 hx ⟨v3, v5, pk, L, rfl, sA, hK, hLl⟩
    obtain ⟨t, ht, rfl⟩ := mem_str hx
    have hi : i < ys.length := (List.getElem?_eq_some_iff.mp ht).1
    have hm := List.mem_of_getElem? ht
    obtain ⟨hta, ht1, ht4⟩ := hyt t hm
    have hP7 := sA _ _ hP6
    have hc := cutS_len t none (some (-1))
    refine ⟨_, rfl, _, rfl, _, rfl, _, _, rfl, rfl, (by exact szle (by show t.length + 1 ≤ _; omega)), ?_⟩
    refine ⟨_, rfl, _, rfl, _, rfl, _, rfl, szle (by omega), _, _, rfl, rfl, (by exact szle (by show (cutS t none (some (-1))).length + 1 ≤ _; omega)), ?_⟩
    refine ⟨_, rfl, _, rfl, _, rfl, _, rfl, szle (by omega), _, _, rfl, rfl, (by exact szle (by show (cutS t none (some (-1))).length + 1 ≤ _; omega)), ?_⟩
    refine ⟨(by show 4 ≤ sizeLine; decide), fun q nq => ?_⟩
    have sq := same_new (o := .lst ([t, t ++ ("a" : Str), cutS t none (some (-1)) ++ ("a" : Str), cutS t none (some (-1)) ++ ("z" : Str)].map V.str)) nq
    refine ⟨pk, q, L.map V.str, _, rfl, rfl, sq _ _ hK, upd_same, (by rw [List.length_map]; exact szle (by show L.length + 4 ≤ _; omega)), fun pk2 npk2 => ?_⟩
    have sB := sq.trans (same_new (o := .lst (L.map V.str ++ [t, t ++ ("a" : Str), cutS t none (some (-1)) ++ ("a" : Str), cutS t none (some (-1)) ++ ("z" : Str)].map V.str)) npk2)
    have hK2 : upd (upd H7 q (.lst ([t, t ++ ("a" : Str), cutS t none (some (-1)) ++ ("a" : Str), cutS t none (some (-1)) ++ ("z" : Str)].map V.str))) pk2 (.lst (L.map V.str ++ [t, t ++ ("a" : Str), cutS t none (some (-1)) ++ ("a" : Str), cutS t none (some (-1)) ++ ("z" : Str)].map V.str)) pk2 = some (.lst ((L ++ [t, t ++ ("a" : Str), cutS t none (some (-1)) ++ ("a" : Str), cutS t none (some (-1)) ++ ("z" : Str)]).map V.str)) := by rw [upd_same, List.map_append]
    show tSeq _ _ _ _ (upd (upd H7 q (.lst ([t, t ++ ("a" : Str), cutS t none (some (-1)) ++ ("a" : Str), cutS t none (some (-1)) ++ ("z" : Str)].map V.str))) pk2 (.lst (L.map V.str ++ [t, t ++ ("a" : Str), cutS t none (some (-1)) ++ ("a" : Str), cutS t none (some (-1)) ++ ("z" : Str)].map V.str)))
    generalize upd (upd H7 q (.lst ([t, t ++ ("a" : Str), cutS t none (some (-1)) ++ ("a" : Str), cutS t none (some (-1)) ++ ("z" : Str)].map V.str))) pk2 (.lst (L.map V.str ++ [t, t ++ ("a" : Str), cutS t none (some (-1)) ++ ("a" : Str), cutS t none (some (-1)) ++ ("z" : Str)].map V.str)) = H8 at sB hK2
    have hP8 := sB _ _ hP7
    -- refused (fences + [fence])
    refine ⟨_, rfl, _, rfl, (by show 1 ≤ sizeLine; decide), fun q3 nq3 => ?_⟩
    have s3 := same_new (o := .lst ([t].map V.str)) nq3
    refine ⟨p, q3, ys.map V.str, _, rfl, rfl, s3 _ _ hP8, upd_same, (by rw [List.length_map]; exact szle (by show ys.length + 1 ≤ _; omega)), fun q4 nq4 => ?_⟩
    have s4 := s3.trans (same_new (o := .lst (ys.map V.str ++ [t].map V.str)) nq4)
    refine ⟨q4, ys ++ [t], rfl, SqL.of (by rw [upd_same, List.map_append]; rfl), by rw [List.length_append]; show ys.length + 1 ≤ _; omega, ?_, fun z => asc_dup hm z.1, fun H9 s9 => ⟨_, rfl, ifF rfl ?_⟩⟩
    · intro x hx
      rcases List.mem_append.mp hx with z | z
      · exact hyll x z
      · have : x = t := by simpa using z
        rw [this]; omega
    have hP9 := s9 _ _ (s4 _ _ hP8)
    have sC := sB.trans (s4.trans s9)
    refine ⟨_, rfl, _, rfl, _, _, rfl, rfl, (by exact szle (by show t.length + 1 ≤ _; omega)), (by show 1 ≤ sizeLine; decide), fun q5 nq5 => ?_⟩
    have s5 := same_new (o := .lst ([t ++ ("_" : Str)].map V.str)) nq5
    refine ⟨p, q5, ys.map V.str, _, rfl, rfl, s5 _ _ hP9, upd_same, (by rw [List.length_map]; exact szle (by show ys.length + 1 ≤ _; omega)), fun q6 nq6 => ?_⟩
    have s6 := s5.trans (same_new (o := .lst (ys.map V.str ++ [t ++ ("_" : Str)].map V.str)) nq6)
    refine ⟨q6, ys ++ [t ++ ("_" : Str)], rfl, SqL.of (by rw [upd_same, List.map_append]; rfl), by rw [List.length_append]; show ys.length + 1 ≤ _; omega, ?_, fun z => not_ok_bar t (z.2 _ (List.mem_append_right _ List.mem_cons_self)), fun H10 s10 => ⟨_, rfl, ifF rfl ?_⟩⟩
    · intro x hx
      rcases List.mem_append.mp hx with z | z
      · exact hyll x z
      · have : x = t ++ ("_" : Str) := by simpa using z
        rw [this, app_len]
        show t.length + 1 ≤ _
        omega
    have sD := sC.trans (s6.trans s10)
    exact ⟨_, _, pk2, _, rfl, sA.trans sD, (s4.trans s9).trans (s6.trans s10) _ _ hK2, by rw [List.length_append]; show L.length + 4 ≤ _; omega⟩
  rintro σ H7 ⟨v3, v5, pk, L, rfl, sA, hK, hLl⟩
  rw [List.length_map] at hLl
  have hP7 := sA _ _ hP6
  have sH7 := sH6.trans sA
  refine ⟨_, rfl, pk, rfl, ⟨_, SqL.of hK⟩, ?_⟩
  refine for_list (K := K) (a := pk) (xs := L.map V.str) (fun i σ H' => ∃ v3 v6 v7, σ = [some (.ref a), some (.ref p), v2, v3, some (.ref pk), v5, v6, v7, none] ∧ Same H7 H') ⟨v3, none, none, rfl, Same.refl _⟩ (fun i σ H' _ ⟨_, _, _, _, h⟩ => SqL.of (h _ _ hK)) ?_ ?_
  · rintro i x σ H8 hx ⟨v3, v6, v7, rfl, sA⟩
    obtain ⟨k, _, rfl⟩ := mem_str hx
    have hP8 := sA _ _ hP7
    refine ⟨_, rfl, p, _, rfl, .inl (SqL.of hP8), fun pg npg => ?_⟩
    have sg1 := same_new (o := .lst (ys.map V.str)) npg
    refine ⟨_, rfl, _, rfl, pg, ys, k, rfl, SqL.of upd_same, by omega, fun H9 s9 => ?_⟩
    have hP9 := s9 _ _ (sg1 _ _ hP8)
    have hG9 := s9 pg _ (upd_same (o := .lst (ys.map V.str)))
    have sB := sA.trans (sg1.trans s9)
    refine ⟨_, rfl, _, rfl, _, rfl, ifF rfl ?_⟩
    refine ⟨_, rfl, _, rfl, p, rfl, ⟨_, SqL.of hP9⟩, fun D hD => ?_⟩
    refine lc_list (K := K) (a := p) (xs := ys.map V.str) (fun i H' => Same H9 H' ∧ H' D = some (.lst (((ys.take i).filter fun t => !decide (ltS k t)).map V.str))) ⟨same_new hD, upd_same⟩ (fun i H' _ h => SqL.of (h.1 _ _ hP9)) ?_ ?_
    · rintro i x H' hx ⟨sA, hp⟩
      obtain ⟨t, ht, rfl⟩ := mem_str hx
      have hi : i < ys.length := (List.getElem?_eq_some_iff.mp ht).1
      have hf := List.length_filter_le (fun t => !decide (ltS k t)) (ys.take i)
      rw [List.length_take] at hf
      refine ⟨rfl, _, rfl, _, rfl, _, _, rfl, rfl, ?_⟩
      by_cases c : ltS k t
      · refine ⟨_, rfl, ifF (by rw [decide_eq_true c]; rfl) ⟨sA, ?_⟩⟩
        rw [take_succ ht, List.filter_append, show [t].filter (fun t => !decide (ltS k t)) = [] by rw [List.filter_cons, decide_eq_true c]; rfl, List.append_nil]
        exact hp
      · refine ⟨_, rfl, ifT (by rw [decide_eq_false c]; rfl) ⟨_, rfl, _, hp, szl (by rw [List.length_map]; omega), same_mut sA hD, ?_⟩⟩
        rw [take_succ ht, List.filter_append, show [t].filter (fun t => !decide (ltS k t)) = [t] by rw [List.filter_cons, decide_eq_false c]; rfl, upd_same, List.map_append]
        rfl
    · rintro H10 ⟨s10, hp⟩
      rw [List.length_map, List.take_length] at hp
      refine ⟨_, _, rfl, .inl ⟨_, SqL.of hp, rfl⟩, rfl, _, rfl, ifF (by rw [List.length_map]; simp) ?_⟩
      refine ⟨_, rfl, _, rfl, _, _, dp_strs (SqL.of (s10 _ _ hG9)), dp_strs (SqL.of (s10 _ _ hP9)), shaped_strs hyal, shaped_strs hyal, _, rfl, ifF (by rw [eqv_strs hyal]; rfl) ?_⟩
      exact ⟨_, _, _, rfl, sB.trans s10⟩
  rintro σ H8 ⟨v3, v6, v7, rfl, sA⟩
  have hP8 := sA _ _ hP7
  have sH8 := sH7.trans sA
  refine ⟨_, rfl, a, ns, 7, rfl, sH8.seq hS, by decide, .inl ⟨_, rfl, _, rfl, _, _, rfl, .inl ⟨_, SqL.of hP8, rfl⟩, _, _, rfl, rfl, _, _, rfl, rfl, by show (0 : Int) < _; omega, ?_⟩⟩
  obtain ⟨m, hm, hml⟩ : ∃ m : Nat, cell ns 7 % (((ys.map V.str).length : Nat) + 1 : Int) = (m : Int) ∧ m ≤ 4 := ⟨(cell ns 7 % (((ys.map V.str).length : Nat) + 1 : Int)).toNat, by
    have := Int.emod_nonneg (cell ns 7) (b := (((ys.map V.str).length : Nat) + 1 : Int)) (by omega)
    omega, by
    have := Int.emod_lt_of_pos (cell ns 7) (b := (((ys.map V.str).length : Nat) + 1 : Int)) (by omega)
    rw [List.length_map] at this ⊢
    omega⟩
  show gName 8 (V.int (cell ns 7 % (((ys.map V.str).length : Nat) + 1 : Int))) _ _ _
  rw [hm]
  refine ⟨_, rfl, _, rfl, _, rfl, p, _, rfl, SqL.of hP8, fun q1 nq1 => ?_⟩
  rw [cut_to, ← List.map_take]
  have z1 := same_new (o := .lst ((ys.take m).map V.str)) nq1
  refine ⟨(by show 1 ≤ sizeLine; decide), fun q2 nq2 => ?_⟩
  have z2 := same_new (o := .lst ([Str.empty].map V.str)) nq2
  refine ⟨q1, q2, _, _, rfl, rfl, z2 _ _ upd_same, upd_same, (by rw [List.length_map, List.length_take]; exact szle (by show _ + 1 ≤ _; omega)), fun q3 nq3 => ?_⟩
  have z3 := (z1.trans z2).trans (same_new (o := .lst ((ys.take m).map V.str ++ [Str.empty].map V.str)) nq3)
  refine ⟨_, rfl, _, rfl, _, rfl, p, _, rfl, SqL.of (z3 _ _ hP8), fun q4 nq4 => ?_⟩
  rw [cut_from, ← List.map_drop]
  have z4 := same_new (o := .lst ((ys.drop m).map V.str)) nq4
  refine ⟨q3, q4, (ys.take m).map V.str ++ [Str.empty].map V.str, _, rfl, rfl, z4 _ _ upd_same, upd_same, (by rw [List.length_append, List.length_map, List.length_map, List.length_map, List.length_take, List.length_drop]; exact szle (by show _ + 1 + _ ≤ _; omega)), fun q5 nq5 => ?_⟩
  have z5 := (z3.trans z4).trans (same_new (o := .lst ((ys.take m).map V.str ++ [Str.empty].map V.str ++ (ys.drop m).map V.str)) nq5)
  refine ⟨q5, ys.take m ++ [Str.empty] ++ ys.drop m, rfl, SqL.of (by rw [upd_same, List.map_append, List.map_append]), (by rw [List.length_append, List.length_append, List.length_take, List.length_drop]; show _ + 1 + _ ≤ _; omega), ?_, fun z => asc_hole (by simp) z.1, fun H9 s9 => ⟨_, rfl, iteT ?_⟩⟩
  · intro x hx
    rcases List.mem_append.mp hx with z | z
    · rcases List.mem_append.mp z with z | z
      · exact hyll x (List.mem_of_mem_take z)
      · have : x = Str.empty := by simpa using z
        rw [this]
        decide
    · exact hyll x (List.mem_of_mem_drop z)
  have hP9 := s9 _ _ (z5 _ _ hP8)
  refine ⟨_, rfl, _, _, rfl, .inl ⟨_, SqL.of hP9, rfl⟩, _, _, rfl, rfl, _, rfl, ?_⟩
  refine iteD (fun c => h1 _) (fun c => ?_)
  rw [List.length_map] at c
  have h2 : 2 ≤ ys.length := by omega
  refine ⟨_, rfl, _, rfl, p, _, rfl, SqL.of hP9, fun q6 nq6 => ?_⟩
  rw [show cutV (ys.map V.str) (some 1) none = (ys.drop 1).map V.str by rw [show (1 : Int) = ((1 : Nat) : Int) from rfl, cut_from, ← List.map_drop]]
  have z6 := same_new (o := .lst ((ys.drop 1).map V.str)) nq6
  refine ⟨_, rfl, _, rfl, p, _, rfl, SqL.of (z6 _ _ hP9), fun q7 nq7 => ?_⟩
  rw [show cutV (ys.map V.str) none (some 1) = (ys.take 1).map V.str by rw [show (1 : Int) = ((1 : Nat) : Int) from rfl, cut_to, ← List.map_take]]
  have z7 := same_new (o := .lst ((ys.take 1).map V.str)) nq7
  refine ⟨q6, q7, _, _, rfl, rfl, z7 _ _ upd_same, upd_same, (by rw [List.length_map, List.length_map, List.length_take, List.length_drop]; exact szle (by omega)), fun q8 nq8 => ?_⟩
  exact ⟨q8, ys.drop 1 ++ ys.take 1, rfl, SqL.of (by rw [upd_same, List.map_append]), (by rw [List.length_append, List.length_take, List.length_drop]; omega), fun x hx => (by
    rcases List.mem_append.mp hx with z | z
    · exact hyll x (List.mem_of_mem_drop z)
    · exact hyll x (List.mem_of_mem_take z)), fun z => asc_turn hasc h2 z.1, fun H' _ => h1 _⟩

end
theorem all_mk {l : PySem.W.OpenLaw} {w : World} {K : PySem.W.Frag} {h : Heap} {mg : Str → Option Value} {fa C_MeridianError C_BadArgument f_encode_number f_encode_text f_encode_texts f_encode_keys f__are_ascending f_check_cuts f_group_of_key f__law_cell f__law_is_int f__law_draws f__law_text f__law_refused f_law : Addr} (X : K.In h) (G : h.Ns mainGlobals mg) (hfa : mg "law" = some (.ref fa))
    {od_encode_number an_encode_number : Option Addr} {sl_encode_number : Array (Option Value)} {oc_encode_number kV_encode_number dc_encode_number pm_encode_number cd_encode_number ct_encode_number : Value}
    {od_encode_text an_encode_text : Option Addr} {sl_encode_text : Array (Option Value)} {oc_encode_text kV_encode_text dc_encode_text pm_encode_text cd_encode_text ct_encode_text : Value}
    {od_encode_texts an_encode_texts : Option Addr} {sl_encode_texts : Array (Option Value)} {oc_encode_texts kV_encode_texts dc_encode_texts pm_encode_texts cd_encode_texts ct_encode_texts : Value}
    {od_encode_keys an_encode_keys : Option Addr} {sl_encode_keys : Array (Option Value)} {oc_encode_keys kV_encode_keys dc_encode_keys pm_encode_keys cd_encode_keys ct_encode_keys : Value}
    {od__are_ascending an__are_ascending : Option Addr} {sl__are_ascending : Array (Option Value)} {oc__are_ascending kV__are_ascending dc__are_ascending pm__are_ascending cd__are_ascending ct__are_ascending : Value}
    {od_check_cuts an_check_cuts : Option Addr} {sl_check_cuts : Array (Option Value)} {oc_check_cuts kV_check_cuts dc_check_cuts pm_check_cuts cd_check_cuts ct_check_cuts : Value}
    {od_group_of_key an_group_of_key : Option Addr} {sl_group_of_key : Array (Option Value)} {oc_group_of_key kV_group_of_key dc_group_of_key pm_group_of_key cd_group_of_key ct_group_of_key : Value}
    {od__law_cell an__law_cell : Option Addr} {sl__law_cell : Array (Option Value)} {oc__law_cell kV__law_cell dc__law_cell pm__law_cell cd__law_cell ct__law_cell : Value}
    {od__law_is_int an__law_is_int : Option Addr} {sl__law_is_int : Array (Option Value)} {oc__law_is_int kV__law_is_int dc__law_is_int pm__law_is_int cd__law_is_int ct__law_is_int : Value}
    {od__law_draws an__law_draws : Option Addr} {sl__law_draws : Array (Option Value)} {oc__law_draws kV__law_draws dc__law_draws pm__law_draws cd__law_draws ct__law_draws : Value}
    {od__law_text an__law_text : Option Addr} {sl__law_text : Array (Option Value)} {oc__law_text kV__law_text dc__law_text pm__law_text cd__law_text ct__law_text : Value}
    {od__law_refused an__law_refused : Option Addr} {sl__law_refused : Array (Option Value)} {oc__law_refused kV__law_refused dc__law_refused pm__law_refused cd__law_refused ct__law_refused : Value}
    {od_law an_law : Option Addr} {sl_law : Array (Option Value)} {oc_law kV_law dc_law pm_law cd_law ct_law : Value}
    {tk_ALPHABET : Tok}
    (mg_MeridianError : PySem.W.nsIn K mainGlobals "MeridianError" = some (some (.ref C_MeridianError)))
    (x_MeridianError : PySem.W.excIn K C_MeridianError [.type "ValueError", .type "Exception", .type "BaseException", .type "object"] "ValueError.__new__" = true)
    (kc_MeridianError : PySem.W.keepIn K (.ref C_MeridianError) = true)
    (bp_MeridianError : PySem.W.subIn K (.ref C_MeridianError) (.type "BaseException") = some true)
    (tp_MeridianError : PySem.W.typeIn K (.ref C_MeridianError) = some (.type "type"))
    (ip_MeridianError : PySem.W.isClsIn K C_MeridianError = true)
    (ga_MeridianError : PySem.W.findIn K (.ref C_MeridianError) "__getattribute__" = some (some (.builtin "BaseException.__getattribute__")))
    (gt_MeridianError : PySem.W.findIn K (.ref C_MeridianError) "__getattr__" = some none)
    (hd_MeridianError : PySem.W.hasDictIn K C_MeridianError = true)
    (ca_MeridianError : PySem.W.findIn K (.ref C_MeridianError) "__class__" = some (some (.builtin "object.__class__")))
    (mo_MeridianError : PySem.W.mroIn K C_MeridianError (.type "object") = some true)
    (ve_MeridianError : PySem.W.subIn K (.ref C_MeridianError) (.type "ValueError") = some true)
    (u_MeridianError_MeridianError : PySem.W.subIn K (.ref C_MeridianError) (.ref C_MeridianError) = some true)
    (u_MeridianError_BadArgument : PySem.W.subIn K (.ref C_MeridianError) (.ref C_BadArgument) = some false)
    (mg_BadArgument : PySem.W.nsIn K mainGlobals "BadArgument" = some (some (.ref C_BadArgument)))
    (x_BadArgument : PySem.W.excIn K C_BadArgument [.type "ValueError", .type "Exception", .type "BaseException", .type "object"] "ValueError.__new__" = true)
    (kc_BadArgument : PySem.W.keepIn K (.ref C_BadArgument) = true)
    (bp_BadArgument : PySem.W.subIn K (.ref C_BadArgument) (.type "BaseException") = some true)
    (tp_BadArgument : PySem.W.typeIn K (.ref C_BadArgument) = some (.type "type"))
    (ip_BadArgument : PySem.W.isClsIn K C_BadArgument = true)
    (ga_BadArgument : PySem.W.findIn K (.ref C_BadArgument) "__getattribute__" = some (some (.builtin "BaseException.__getattribute__")))
    (gt_BadArgument : PySem.W.findIn K (.ref C_BadArgument) "__getattr__" = some none)
    (hd_BadArgument : PySem.W.hasDictIn K C_BadArgument = true)
    (ca_BadArgument : PySem.W.findIn K (.ref C_BadArgument) "__class__" = some (some (.builtin "object.__class__")))
    (mo_BadArgument : PySem.W.mroIn K C_BadArgument (.type "object") = some true)
    (ve_BadArgument : PySem.W.subIn K (.ref C_BadArgument) (.type "ValueError") = some true)
    (u_BadArgument_MeridianError : PySem.W.subIn K (.ref C_BadArgument) (.ref C_MeridianError) = some true)
    (u_BadArgument_BadArgument : PySem.W.subIn K (.ref C_BadArgument) (.ref C_BadArgument) = some true)
    (cn : PySem.W.specialIn K (.builtin "object.__class__") "__get__" = some (some (.builtin "getset_descriptor.__get__")))
    (ct : PySem.W.takesIn K (.builtin "object.__class__") = some true)
    (a_encode_number : PySem.W.nsIn K mainGlobals "encode_number" = some (some (.ref f_encode_number)))
    (l_encode_number : K.lookup f_encode_number = some ⟨oc_encode_number, od_encode_number, .func (PySem.W.fnOf "encode_number" "encode_number" (defArgs s_encode_number) (defBody s_encode_number) (defScope s_encode_number) .none kV_encode_number dc_encode_number pm_encode_number an_encode_number cd_encode_number ct_encode_number), sl_encode_number⟩)
    (c_encode_number : PySem.W.codeIn K cd_encode_number "encode_number" = true)
    (k_encode_number : PySem.W.keepIn K (.ref f_encode_number) = true)
    (a_encode_text : PySem.W.nsIn K mainGlobals "encode_text" = some (some (.ref f_encode_text)))
    (l_encode_text : K.lookup f_encode_text = some ⟨oc_encode_text, od_encode_text, .func (PySem.W.fnOf "encode_text" "encode_text" (defArgs s_encode_text) (defBody s_encode_text) (defScope s_encode_text) .none kV_encode_text dc_encode_text pm_encode_text an_encode_text cd_encode_text ct_encode_text), sl_encode_text⟩)
    (c_encode_text : PySem.W.codeIn K cd_encode_text "encode_text" = true)
    (k_encode_text : PySem.W.keepIn K (.ref f_encode_text) = true)
    (a_encode_texts : PySem.W.nsIn K mainGlobals "encode_texts" = some (some (.ref f_encode_texts)))
    (l_encode_texts : K.lookup f_encode_texts = some ⟨oc_encode_texts, od_encode_texts, .func (PySem.W.fnOf "encode_texts" "encode_texts" (defArgs s_encode_texts) (defBody s_encode_texts) (defScope s_encode_texts) .none kV_encode_texts dc_encode_texts pm_encode_texts an_encode_texts cd_encode_texts ct_encode_texts), sl_encode_texts⟩)
    (c_encode_texts : PySem.W.codeIn K cd_encode_texts "encode_texts" = true)
    (k_encode_texts : PySem.W.keepIn K (.ref f_encode_texts) = true)
    (a_encode_keys : PySem.W.nsIn K mainGlobals "encode_keys" = some (some (.ref f_encode_keys)))
    (l_encode_keys : K.lookup f_encode_keys = some ⟨oc_encode_keys, od_encode_keys, .func (PySem.W.fnOf "encode_keys" "encode_keys" (defArgs s_encode_keys) (defBody s_encode_keys) (defScope s_encode_keys) .none kV_encode_keys dc_encode_keys pm_encode_keys an_encode_keys cd_encode_keys ct_encode_keys), sl_encode_keys⟩)
    (c_encode_keys : PySem.W.codeIn K cd_encode_keys "encode_keys" = true)
    (k_encode_keys : PySem.W.keepIn K (.ref f_encode_keys) = true)
    (a__are_ascending : PySem.W.nsIn K mainGlobals "_are_ascending" = some (some (.ref f__are_ascending)))
    (l__are_ascending : K.lookup f__are_ascending = some ⟨oc__are_ascending, od__are_ascending, .func (PySem.W.fnOf "_are_ascending" "_are_ascending" (defArgs s__are_ascending) (defBody s__are_ascending) (defScope s__are_ascending) .none kV__are_ascending dc__are_ascending pm__are_ascending an__are_ascending cd__are_ascending ct__are_ascending), sl__are_ascending⟩)
    (c__are_ascending : PySem.W.codeIn K cd__are_ascending "_are_ascending" = true)
    (k__are_ascending : PySem.W.keepIn K (.ref f__are_ascending) = true)
    (a_check_cuts : PySem.W.nsIn K mainGlobals "check_cuts" = some (some (.ref f_check_cuts)))
    (l_check_cuts : K.lookup f_check_cuts = some ⟨oc_check_cuts, od_check_cuts, .func (PySem.W.fnOf "check_cuts" "check_cuts" (defArgs s_check_cuts) (defBody s_check_cuts) (defScope s_check_cuts) .none kV_check_cuts dc_check_cuts pm_check_cuts an_check_cuts cd_check_cuts ct_check_cuts), sl_check_cuts⟩)
    (c_check_cuts : PySem.W.codeIn K cd_check_cuts "check_cuts" = true)
    (k_check_cuts : PySem.W.keepIn K (.ref f_check_cuts) = true)
    (a_group_of_key : PySem.W.nsIn K mainGlobals "group_of_key" = some (some (.ref f_group_of_key)))
    (l_group_of_key : K.lookup f_group_of_key = some ⟨oc_group_of_key, od_group_of_key, .func (PySem.W.fnOf "group_of_key" "group_of_key" (defArgs s_group_of_key) (defBody s_group_of_key) (defScope s_group_of_key) .none kV_group_of_key dc_group_of_key pm_group_of_key an_group_of_key cd_group_of_key ct_group_of_key), sl_group_of_key⟩)
    (c_group_of_key : PySem.W.codeIn K cd_group_of_key "group_of_key" = true)
    (k_group_of_key : PySem.W.keepIn K (.ref f_group_of_key) = true)
    (a__law_cell : PySem.W.nsIn K mainGlobals "_law_cell" = some (some (.ref f__law_cell)))
    (l__law_cell : K.lookup f__law_cell = some ⟨oc__law_cell, od__law_cell, .func (PySem.W.fnOf "_law_cell" "_law_cell" (defArgs s__law_cell) (defBody s__law_cell) (defScope s__law_cell) .none kV__law_cell dc__law_cell pm__law_cell an__law_cell cd__law_cell ct__law_cell), sl__law_cell⟩)
    (c__law_cell : PySem.W.codeIn K cd__law_cell "_law_cell" = true)
    (k__law_cell : PySem.W.keepIn K (.ref f__law_cell) = true)
    (a__law_is_int : PySem.W.nsIn K mainGlobals "_law_is_int" = some (some (.ref f__law_is_int)))
    (l__law_is_int : K.lookup f__law_is_int = some ⟨oc__law_is_int, od__law_is_int, .func (PySem.W.fnOf "_law_is_int" "_law_is_int" (defArgs s__law_is_int) (defBody s__law_is_int) (defScope s__law_is_int) .none kV__law_is_int dc__law_is_int pm__law_is_int an__law_is_int cd__law_is_int ct__law_is_int), sl__law_is_int⟩)
    (c__law_is_int : PySem.W.codeIn K cd__law_is_int "_law_is_int" = true)
    (k__law_is_int : PySem.W.keepIn K (.ref f__law_is_int) = true)
    (a__law_draws : PySem.W.nsIn K mainGlobals "_law_draws" = some (some (.ref f__law_draws)))
    (l__law_draws : K.lookup f__law_draws = some ⟨oc__law_draws, od__law_draws, .func (PySem.W.fnOf "_law_draws" "_law_draws" (defArgs s__law_draws) (defBody s__law_draws) (defScope s__law_draws) .none kV__law_draws dc__law_draws pm__law_draws an__law_draws cd__law_draws ct__law_draws), sl__law_draws⟩)
    (c__law_draws : PySem.W.codeIn K cd__law_draws "_law_draws" = true)
    (k__law_draws : PySem.W.keepIn K (.ref f__law_draws) = true)
    (a__law_text : PySem.W.nsIn K mainGlobals "_law_text" = some (some (.ref f__law_text)))
    (l__law_text : K.lookup f__law_text = some ⟨oc__law_text, od__law_text, .func (PySem.W.fnOf "_law_text" "_law_text" (defArgs s__law_text) (defBody s__law_text) (defScope s__law_text) .none kV__law_text dc__law_text pm__law_text an__law_text cd__law_text ct__law_text), sl__law_text⟩)
    (c__law_text : PySem.W.codeIn K cd__law_text "_law_text" = true)
    (k__law_text : PySem.W.keepIn K (.ref f__law_text) = true)
    (a__law_refused : PySem.W.nsIn K mainGlobals "_law_refused" = some (some (.ref f__law_refused)))
    (l__law_refused : K.lookup f__law_refused = some ⟨oc__law_refused, od__law_refused, .func (PySem.W.fnOf "_law_refused" "_law_refused" (defArgs s__law_refused) (defBody s__law_refused) (defScope s__law_refused) .none kV__law_refused dc__law_refused pm__law_refused an__law_refused cd__law_refused ct__law_refused), sl__law_refused⟩)
    (c__law_refused : PySem.W.codeIn K cd__law_refused "_law_refused" = true)
    (k__law_refused : PySem.W.keepIn K (.ref f__law_refused) = true)
    (a_law : PySem.W.nsIn K mainGlobals "law" = some (some (.ref f_law)))
    (l_law : K.lookup f_law = some ⟨oc_law, od_law, .func (PySem.W.fnOf "law" "law" (defArgs s_law) (defBody s_law) (defScope s_law) .none kV_law dc_law pm_law an_law cd_law ct_law), sl_law⟩)
    (c_law : PySem.W.codeIn K cd_law "law" = true)
    (k_law : PySem.W.keepIn K (.ref f_law) = true)
    (x0_ALPHABET : PySem.W.nsIn K mainGlobals "ALPHABET" = some (some (.str "abcdefghijklmnopqrstuvwxyz0123456789./" tk_ALPHABET)))
    (z_len : PySem.W.nsIn K mainGlobals "len" = some none)
    (z_abs : PySem.W.nsIn K mainGlobals "abs" = some none)
    (z_int : PySem.W.nsIn K mainGlobals "int" = some none)
    (z_isinstance : PySem.W.nsIn K mainGlobals "isinstance" = some none)
    (z_bool : PySem.W.nsIn K mainGlobals "bool" = some none)
    (z_range : PySem.W.nsIn K mainGlobals "range" = some none)
    (z_sorted : PySem.W.nsIn K mainGlobals "sorted" = some none)
    (z_list : PySem.W.nsIn K mainGlobals "list" = some none)
    (z_tuple : PySem.W.nsIn K mainGlobals "tuple" = some none) :
    ∃ fd : FuncData, (∀ (s : Shared) (v : Value), BindsTo s fd ⟨[v], []⟩ [("script", v)]) ∧ ∀ base : Heap, K.In base → base.Ns mainGlobals mg → FnOk l.prog w K mg base CX0 9 fa fd ["script"] (spLaw K) := by
  have e : f_law = fa := (Value.ref.inj (Option.some.inj (hfa.symm.trans (PySem.W.mg_of X G a_law)))).symm
  subst e
  let T : Env K mg := {
    c_MeridianError := C_MeridianError,
    c_BadArgument := C_BadArgument,
    a_encode_number := f_encode_number,
    d_encode_number := _,
    F_encode_number := fun_mk (st := s_encode_number) l_encode_number c_encode_number k_encode_number,
    b_encode_number := (fun_mk (st := s_encode_number) l_encode_number c_encode_number k_encode_number).binds (ps := ["number"]) fun _ _ _ _ _ _ us hl => match us, hl with | [_], _ => rfl,
    g_encode_number := PySem.W.mg_of X G a_encode_number,
    a_encode_text := f_encode_text,
    d_encode_text := _,
    F_encode_text := fun_mk (st := s_encode_text) l_encode_text c_encode_text k_encode_text,
    b_encode_text := (fun_mk (st := s_encode_text) l_encode_text c_encode_text k_encode_text).binds (ps := ["text"]) fun _ _ _ _ _ _ us hl => match us, hl with | [_], _ => rfl,
    g_encode_text := PySem.W.mg_of X G a_encode_text,
    a_encode_texts := f_encode_texts,
    d_encode_texts := _,
    F_encode_texts := fun_mk (st := s_encode_texts) l_encode_texts c_encode_texts k_encode_texts,
    b_encode_texts := (fun_mk (st := s_encode_texts) l_encode_texts c_encode_texts k_encode_texts).binds (ps := ["texts"]) fun _ _ _ _ _ _ us hl => match us, hl with | [_], _ => rfl,
    g_encode_texts := PySem.W.mg_of X G a_encode_texts,
    a_encode_keys := f_encode_keys,
    d_encode_keys := _,
    F_encode_keys := fun_mk (st := s_encode_keys) l_encode_keys c_encode_keys k_encode_keys,
    b_encode_keys := (fun_mk (st := s_encode_keys) l_encode_keys c_encode_keys k_encode_keys).binds (ps := ["keys"]) fun _ _ _ _ _ _ us hl => match us, hl with | [_], _ => rfl,
    g_encode_keys := PySem.W.mg_of X G a_encode_keys,
    a__are_ascending := f__are_ascending,
    d__are_ascending := _,
    F__are_ascending := fun_mk (st := s__are_ascending) l__are_ascending c__are_ascending k__are_ascending,
    b__are_ascending := (fun_mk (st := s__are_ascending) l__are_ascending c__are_ascending k__are_ascending).binds (ps := ["keys"]) fun _ _ _ _ _ _ us hl => match us, hl with | [_], _ => rfl,
    g__are_ascending := PySem.W.mg_of X G a__are_ascending,
    a_check_cuts := f_check_cuts,
    d_check_cuts := _,
    F_check_cuts := fun_mk (st := s_check_cuts) l_check_cuts c_check_cuts k_check_cuts,
    b_check_cuts := (fun_mk (st := s_check_cuts) l_check_cuts c_check_cuts k_check_cuts).binds (ps := ["cuts"]) fun _ _ _ _ _ _ us hl => match us, hl with | [_], _ => rfl,
    g_check_cuts := PySem.W.mg_of X G a_check_cuts,
    a_group_of_key := f_group_of_key,
    d_group_of_key := _,
    F_group_of_key := fun_mk (st := s_group_of_key) l_group_of_key c_group_of_key k_group_of_key,
    b_group_of_key := (fun_mk (st := s_group_of_key) l_group_of_key c_group_of_key k_group_of_key).binds (ps := ["cuts", "key"]) fun _ _ _ _ _ _ us hl => match us, hl with | [_, _], _ => rfl,
    g_group_of_key := PySem.W.mg_of X G a_group_of_key,
    a__law_cell := f__law_cell,
    d__law_cell := _,
    F__law_cell := fun_mk (st := s__law_cell) l__law_cell c__law_cell k__law_cell,
    b__law_cell := (fun_mk (st := s__law_cell) l__law_cell c__law_cell k__law_cell).binds (ps := ["script", "k"]) fun _ _ _ _ _ _ us hl => match us, hl with | [_, _], _ => rfl,
    g__law_cell := PySem.W.mg_of X G a__law_cell,
    a__law_is_int := f__law_is_int,
    d__law_is_int := _,
    F__law_is_int := fun_mk (st := s__law_is_int) l__law_is_int c__law_is_int k__law_is_int,
    b__law_is_int := (fun_mk (st := s__law_is_int) l__law_is_int c__law_is_int k__law_is_int).binds (ps := ["thing"]) fun _ _ _ _ _ _ us hl => match us, hl with | [_], _ => rfl,
    g__law_is_int := PySem.W.mg_of X G a__law_is_int,
    a__law_draws := f__law_draws,
    d__law_draws := _,
    F__law_draws := fun_mk (st := s__law_draws) l__law_draws c__law_draws k__law_draws,
    b__law_draws := (fun_mk (st := s__law_draws) l__law_draws c__law_draws k__law_draws).binds (ps := ["cell", "many", "limit"]) fun _ _ _ _ _ _ us hl => match us, hl with | [_, _, _], _ => rfl,
    g__law_draws := PySem.W.mg_of X G a__law_draws,
    a__law_text := f__law_text,
    d__law_text := _,
    F__law_text := fun_mk (st := s__law_text) l__law_text c__law_text k__law_text,
    b__law_text := (fun_mk (st := s__law_text) l__law_text c__law_text k__law_text).binds (ps := ["cell", "many"]) fun _ _ _ _ _ _ us hl => match us, hl with | [_, _], _ => rfl,
    g__law_text := PySem.W.mg_of X G a__law_text,
    a__law_refused := f__law_refused,
    d__law_refused := _,
    F__law_refused := fun_mk (st := s__law_refused) l__law_refused c__law_refused k__law_refused,
    b__law_refused := (fun_mk (st := s__law_refused) l__law_refused c__law_refused k__law_refused).binds (ps := ["fences"]) fun _ _ _ _ _ _ us hl => match us, hl with | [_], _ => rfl,
    g__law_refused := PySem.W.mg_of X G a__law_refused,
    a_law := f_law,
    d_law := _,
    F_law := fun_mk (st := s_law) l_law c_law k_law,
    b_law := (fun_mk (st := s_law) l_law c_law k_law).binds (ps := ["script"]) fun _ _ _ _ _ _ us hl => match us, hl with | [_], _ => rfl,
    e_MeridianError := ⟨PySem.W.mg_of X G mg_MeridianError, x_MeridianError, kc_MeridianError, bp_MeridianError, tp_MeridianError, ip_MeridianError, ⟨ga_MeridianError, gt_MeridianError, bp_MeridianError, hd_MeridianError, ca_MeridianError, cn, ct, mo_MeridianError⟩, kit_ty_sub ve_MeridianError (by decide +kernel)⟩,
    u_MeridianError_MeridianError := PySem.W.exm_ref bp_MeridianError hd_MeridianError tp_MeridianError u_MeridianError_MeridianError,
    q_MeridianError_MeridianError := kit_own u_MeridianError_MeridianError u_MeridianError_MeridianError ip_MeridianError tp_MeridianError,
    u_MeridianError_BadArgument := PySem.W.exm_ref bp_BadArgument hd_BadArgument tp_BadArgument u_MeridianError_BadArgument,
    q_MeridianError_BadArgument := kit_own u_MeridianError_BadArgument u_MeridianError_MeridianError ip_BadArgument tp_BadArgument,
    e_BadArgument := ⟨PySem.W.mg_of X G mg_BadArgument, x_BadArgument, kc_BadArgument, bp_BadArgument, tp_BadArgument, ip_BadArgument, ⟨ga_BadArgument, gt_BadArgument, bp_BadArgument, hd_BadArgument, ca_BadArgument, cn, ct, mo_BadArgument⟩, kit_ty_sub ve_BadArgument (by decide +kernel)⟩,
    u_BadArgument_MeridianError := PySem.W.exm_ref bp_MeridianError hd_MeridianError tp_MeridianError u_BadArgument_MeridianError,
    q_BadArgument_MeridianError := kit_own u_BadArgument_MeridianError u_BadArgument_BadArgument ip_MeridianError tp_MeridianError,
    u_BadArgument_BadArgument := PySem.W.exm_ref bp_BadArgument hd_BadArgument tp_BadArgument u_BadArgument_BadArgument,
    q_BadArgument_BadArgument := kit_own u_BadArgument_BadArgument u_BadArgument_BadArgument ip_BadArgument tp_BadArgument,
    o_ALPHABET := _,
    k_ALPHABET := PySem.W.mg_of X G x0_ALPHABET,
    r_ALPHABET := ⟨_, rfl⟩,
    z_len := PySem.W.mg_none_of X G z_len,
    z_abs := PySem.W.mg_none_of X G z_abs,
    z_int := PySem.W.mg_none_of X G z_int,
    z_isinstance := PySem.W.mg_none_of X G z_isinstance,
    z_bool := PySem.W.mg_none_of X G z_bool,
    z_range := PySem.W.mg_none_of X G z_range,
    z_sorted := PySem.W.mg_none_of X G z_sorted,
    z_list := PySem.W.mg_none_of X G z_list,
    z_tuple := PySem.W.mg_none_of X G z_tuple }
  exact ⟨PySem.W.fnOf "law" "law" (defArgs s_law) (defBody s_law) (defScope s_law) .none kV_law dc_law pm_law an_law cd_law ct_law, fun s v => .of_eq rfl, fun base _ _ => ok_law T⟩
theorem walk {l : PySem.W.OpenLaw} {q : Program} {loose : List Str} {XP : (Str → Option Value) → Heap → Prop} {YP : World → Heap → Prop} {d : DefRec} {K : Params → PySem.W.Frag} (hn : l.most = some 63) (hdf : d.params.defaults = [])
    (hY : ∀ (w : World) (h : Heap), YP w h → (K w.params).In h)
    (F : ∀ (w : World) (mg : Str → Option Value) (fa : Addr) (h : Heap), (K w.params).In h → h.Ns mainGlobals mg → mg d.name = some (.ref fa) →
      ∃ fd : FuncData, (∀ (s : Shared) (u : Value), BindsTo s fd ⟨[u], []⟩ [("script", u)]) ∧ ∀ base : Heap, (K w.params).In base → base.Ns mainGlobals mg → FnOk l.prog w (K w.params) mg base CX0 9 fa fd ["script"] (spLaw (K w.params))) :
    PySem.W.WalkO q loose XP YP l.row.toRowW d [] (fun f vs => PySem.call f vs) :=
  L2.walk_of (n := 63) (k := 9) (x := "script") (CX := fun _ => CX0) (sp := fun w => spLaw (K w.params)) hn (by decide) hdf ⟨rfl, by decide, by decide⟩ hY F (fun _ _ a ns hl _ hS => ⟨a, ns, rfl, hS, hl, fun _ => rfl⟩) fun _ _ _ _ _ z => z
end Dv
open PySem PySem.W PyProof.Rows in
set_option maxRecDepth 100000 in
set_option maxHeartbeats 0 in
theorem PySem.Challenge.cw_meridian_k59_groups_of_keys_holds : PySem.Challenge.rw_meridian_k59_groups_of_keys.Holds := by
  w_on; o_law; k_head; (case hw => w_witness2)
  k_fill
  refine Dv.walk (l := PySem.Challenge.rw_meridian_k59_groups_of_keys) rfl rfl (fun w h Y => PySem.W.kIn_of Y) ?F
  case F =>
    intro w mg fa h KX G hmg
    refine' Dv.all_mk KX G hmg ?mg_MeridianError ?x_MeridianError ?kc_MeridianError ?bp_MeridianError ?tp_MeridianError ?ip_MeridianError ?ga_MeridianError ?gt_MeridianError ?hd_MeridianError ?ca_MeridianError ?mo_MeridianError ?ve_MeridianError ?u_MeridianError_MeridianError ?u_MeridianError_BadArgument ?mg_BadArgument ?x_BadArgument ?kc_BadArgument ?bp_BadArgument ?tp_BadArgument ?ip_BadArgument ?ga_BadArgument ?gt_BadArgument ?hd_BadArgument ?ca_BadArgument ?mo_BadArgument ?ve_BadArgument ?u_BadArgument_MeridianError ?u_BadArgument_BadArgument ?cn ?ct ?a_encode_number ?l_encode_number ?c_encode_number ?k_encode_number ?a_encode_text ?l_encode_text ?c_encode_text ?k_encode_text ?a_encode_texts ?l_encode_texts ?c_encode_texts ?k_encode_texts ?a_encode_keys ?l_encode_keys ?c_encode_keys ?k_encode_keys ?a__are_ascending ?l__are_ascending ?c__are_ascending ?k__are_ascending ?a_check_cuts ?l_check_cuts ?c_check_cuts ?k_check_cuts ?a_group_of_key ?l_group_of_key ?c_group_of_key ?k_group_of_key ?a__law_cell ?l__law_cell ?c__law_cell ?k__law_cell ?a__law_is_int ?l__law_is_int ?c__law_is_int ?k__law_is_int ?a__law_draws ?l__law_draws ?c__law_draws ?k__law_draws ?a__law_text ?l__law_text ?c__law_text ?k__law_text ?a__law_refused ?l__law_refused ?c__law_refused ?k__law_refused ?a_law ?l_law ?c_law ?k_law ?x0_ALPHABET ?z_len ?z_abs ?z_int ?z_isinstance ?z_bool ?z_range ?z_sorted ?z_list ?z_tuple
    (case mg_MeridianError => k_is)
    (case mg_BadArgument => k_is)
    (case a_encode_number => k_is)
    (case a_encode_text => k_is)
    (case a_encode_texts => k_is)
    (case a_encode_keys => k_is)
    (case a__are_ascending => k_is)
    (case a_check_cuts => k_is)
    (case a_group_of_key => k_is)
    (case a__law_cell => k_is)
    (case a__law_is_int => k_is)
    (case a__law_draws => k_is)
    (case a__law_text => k_is)
    (case a__law_refused => k_is)
    (case a_law => k_is)
    (case x_MeridianError => k_exc)
    (case kc_MeridianError => k_is)
    (case bp_MeridianError => k_is)
    (case tp_MeridianError => k_is)
    (case ip_MeridianError => k_is)
    (case ga_MeridianError => k_is)
    (case gt_MeridianError => k_is)
    (case hd_MeridianError => k_is)
    (case ca_MeridianError => k_is)
    (case mo_MeridianError => k_is)
    (case ve_MeridianError => k_is)
    (case u_MeridianError_MeridianError => k_is)
    (case u_MeridianError_BadArgument => k_is)
    (case x_BadArgument => k_exc)
    (case kc_BadArgument => k_is)
    (case bp_BadArgument => k_is)
    (case tp_BadArgument => k_is)
    (case ip_BadArgument => k_is)
    (case ga_BadArgument => k_is)
    (case gt_BadArgument => k_is)
    (case hd_BadArgument => k_is)
    (case ca_BadArgument => k_is)
    (case mo_BadArgument => k_is)
    (case ve_BadArgument => k_is)
    (case u_BadArgument_MeridianError => k_is)
    (case u_BadArgument_BadArgument => k_is)
    (case cn => k_is)
    (case ct => k_is)
    (case l_encode_number => k_is)
    (case c_encode_number => k_is)
    (case k_encode_number => k_is)
    (case l_encode_text => k_is)
    (case c_encode_text => k_is)
    (case k_encode_text => k_is)
    (case l_encode_texts => k_is)
    (case c_encode_texts => k_is)
    (case k_encode_texts => k_is)
    (case l_encode_keys => k_is)
    (case c_encode_keys => k_is)
    (case k_encode_keys => k_is)
    (case l__are_ascending => k_is)
    (case c__are_ascending => k_is)
    (case k__are_ascending => k_is)
    (case l_check_cuts => k_is)
    (case c_check_cuts => k_is)
    (case k_check_cuts => k_is)
    (case l_group_of_key => k_is)
    (case c_group_of_key => k_is)
    (case k_group_of_key => k_is)
    (case l__law_cell => k_is)
    (case c__law_cell => k_is)
    (case k__law_cell => k_is)
    (case l__law_is_int => k_is)
    (case c__law_is_int => k_is)
    (case k__law_is_int => k_is)
    (case l__law_draws => k_is)
    (case c__law_draws => k_is)
    (case k__law_draws => k_is)
    (case l__law_text => k_is)
    (case c__law_text => k_is)
    (case k__law_text => k_is)
    (case l__law_refused => k_is)
    (case c__law_refused => k_is)
    (case k__law_refused => k_is)
    (case l_law => k_is)
    (case c_law => k_is)
    (case k_law => k_is)
    (case x0_ALPHABET => k_is)
    (case z_len => k_is)
    (case z_abs => k_is)
    (case z_int => k_is)
    (case z_isinstance => k_is)
    (case z_bool => k_is)
    (case z_range => k_is)
    (case z_sorted => k_is)
    (case z_list => k_is)
    (case z_tuple => k_is)
