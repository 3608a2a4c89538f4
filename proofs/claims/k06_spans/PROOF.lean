import PyProof.Rows.All
import Wide.All
import OpenK.AllK
import Wide.FinOn
import HandS.ForExc
import HandS.ForMost
import HandS.IsInst
import HandS.ExcIs
import HandS.Wide
import HandS.CallSlots
import HandS.Property
import HandS.Defaults
import HandS.MakeKwOnly
import HandS.TupAny
import HandS.LawCells
import PySem.Challenge.RW_meridian_k06_spans
set_option Elab.async false
set_option linter.all false
set_option maxRecDepth 100000
set_option maxHeartbeats 4000000
namespace Dv
open PySem PySem.Spec PyProof.Rows L2
def top (i : Nat) : Stmt := PySem.Challenge.pw_meridian_k06_spans.main.body.getD i (.Pass ⟨0, 0, 0, 0⟩)
abbrev s_Span_init : Stmt := (inClass (top 4) 0)
theorem sc_Span_init : FnScope ["self", "low", "high"] ["self", "low", "high"] (defScope s_Span_init) := ⟨rfl, rfl, rfl, by decide +kernel, rfl, by decide +kernel, by decide +kernel⟩
abbrev s_Span_contains : Stmt := (inClass (top 4) 1)
theorem sc_Span_contains : FnScope ["self", "time"] ["self", "time"] (defScope s_Span_contains) := ⟨rfl, rfl, rfl, by decide +kernel, rfl, by decide +kernel, by decide +kernel⟩
abbrev s_Span_is_past : Stmt := (inClass (top 4) 2)
theorem sc_Span_is_past : FnScope ["self", "time"] ["self", "time"] (defScope s_Span_is_past) := ⟨rfl, rfl, rfl, by decide +kernel, rfl, by decide +kernel, by decide +kernel⟩
abbrev s_Span_is_ahead : Stmt := (inClass (top 4) 3)
theorem sc_Span_is_ahead : FnScope ["self", "time"] ["self", "time"] (defScope s_Span_is_ahead) := ⟨rfl, rfl, rfl, by decide +kernel, rfl, by decide +kernel, by decide +kernel⟩
abbrev s_Span_is_before : Stmt := (inClass (top 4) 4)
theorem sc_Span_is_before : FnScope ["self", "other"] ["self", "other"] (defScope s_Span_is_before) := ⟨rfl, rfl, rfl, by decide +kernel, rfl, by decide +kernel, by decide +kernel⟩
abbrev s_common_span : Stmt := (top 5)
theorem sc_common_span : FnScope ["spans", "low", "high", "span"] ["spans"] (defScope s_common_span) := ⟨rfl, rfl, rfl, by decide +kernel, rfl, by decide +kernel, by decide +kernel⟩
abbrev s__law_cell : Stmt := (top 7)
theorem sc__law_cell : FnScope ["script", "k"] ["script", "k"] (defScope s__law_cell) := ⟨rfl, rfl, rfl, by decide +kernel, rfl, by decide +kernel, by decide +kernel⟩
abbrev s__law_is_int : Stmt := (top 8)
theorem sc__law_is_int : FnScope ["thing"] ["thing"] (defScope s__law_is_int) := ⟨rfl, rfl, rfl, by decide +kernel, rfl, by decide +kernel, by decide +kernel⟩
abbrev s__law_number : Stmt := (top 9)
theorem sc__law_number : FnScope ["cell"] ["cell"] (defScope s__law_number) := ⟨rfl, rfl, rfl, by decide +kernel, rfl, by decide +kernel, by decide +kernel⟩
abbrev s__law_same : Stmt := (top 10)
theorem sc__law_same : FnScope ["actual", "due"] ["actual", "due"] (defScope s__law_same) := ⟨rfl, rfl, rfl, by decide +kernel, rfl, by decide +kernel, by decide +kernel⟩
abbrev s__law_refused : Stmt := (top 11)
theorem sc__law_refused : FnScope ["low", "high"] ["low", "high"] (defScope s__law_refused) := ⟨rfl, rfl, rfl, by decide +kernel, rfl, by decide +kernel, by decide +kernel⟩
abbrev s__law_none : Stmt := (top 12)
theorem sc__law_none : FnScope [] [] (defScope s__law_none) := ⟨rfl, rfl, rfl, by decide +kernel, rfl, by decide +kernel, by decide +kernel⟩
abbrev s__law_ends : Stmt := (top 13)
theorem sc__law_ends : FnScope ["cell", "other", "low"] ["cell", "other"] (defScope s__law_ends) := ⟨rfl, rfl, rfl, by decide +kernel, rfl, by decide +kernel, by decide +kernel⟩
abbrev s__law_answers : Stmt := (top 14)
theorem sc__law_answers : FnScope ["span", "low", "high", "time"] ["span", "low", "high", "time"] (defScope s__law_answers) := ⟨rfl, rfl, rfl, by decide +kernel, rfl, by decide +kernel, by decide +kernel⟩
abbrev s_law : Stmt := (top 15)
theorem sc_law : FnScope ["script", "ends", "spans", "k", "low", "high", "time", "given", "actual", "pair"] ["script"] (defScope s_law) := ⟨rfl, rfl, rfl, by decide +kernel, rfl, by decide +kernel, by decide +kernel⟩
theorem kit_own {K : PySem.W.Frag} {C E : Addr} {b : Bool} (h : PySem.W.subIn K (.ref C) (.ref E) = some b) (hs : PySem.W.subIn K (.ref C) (.ref C) = some true) (hc : PySem.W.isClsIn K E = true) (ht : PySem.W.typeIn K (.ref E) = some (.type "type")) :
    PySem.W.kitOne K (.ref C) (.ref E) = some b := by
  unfold PySem.W.kitOne
  by_cases e : (Value.ref C == Value.ref E) = true
  · rw [if_pos e]
    have e' : Value.ref C = Value.ref E := by simpa using e
    rw [← e', hs] at h
    exact h
  · rw [if_neg e]
    show (if ((PySem.W.clsIn K E).isSome && PySem.W.typeIn K (.ref E) == some (.type "type")) = true then PySem.W.subIn K (.ref C) (.ref E) else none) = some b
    have hc' : (PySem.W.clsIn K E).isSome = true := hc
    rw [hc', ht, if_pos (by rfl)]
    exact h
theorem kit_ty_sub {K : PySem.W.Frag} {C : Addr} {T : String} {b : Bool} (h : PySem.W.subIn K (.ref C) (.type T) = some b) (hm : PySem.W.kitMeta T = true) : PySem.W.kitOne K (.ref C) (.type T) = some b := by
  unfold PySem.W.kitOne
  rw [if_neg (by simp)]
  show (if PySem.W.kitMeta T = true then PySem.W.subIn K (.ref C) (.type T) else none) = some b
  rw [if_pos hm]
  exact h
/-- isinstance(e, c), isinstance(e, (c1, ..)): e the exception that the suite holds, of whatever class -/
def rIsG (K : PySem.W.Frag) (cls : Value) (d : Option Addr) (a : Addr) : List V → Hp → VK → Prop := fun xs H Q => ∃ (D : Addr) (b : Bool), cls = .ref D ∧ d = none ∧ ExcC K D ∧
  ((∃ (c : V) (cv : Value), xs = [.ref a, c] ∧ ClsV c cv ∧ PySem.W.kitOne K (.ref D) cv = some b ∧ Q (.bl b) H) ∨
   ∃ (tp : Addr) (cs : List V) (us : List Value), xs = [.ref a, .ref tp] ∧ H tp = some (.tup cs) ∧ Paired ClsV cs us ∧ PySem.W.kitAny K (.ref D) us = some b ∧ Q (.bl b) H)
theorem call_isG {X : Cx} {a : Addr} {cls : Value} {d : Option Addr} {oe : Obj} {pn : List (Addr × Obj)} (hz : Zc cls d oe) (hf : ∃ vs, oe.data = .fields vs) : CallR (X.suite a ((a, oe) :: pn)) (.builtin "isinstance") (rIsG X.K cls d a) := by
  intro pins s σ H xs us Q I r h
  obtain ⟨D, b, rfl, rfl, C, h⟩ := h
  rcases h with ⟨c, cv, rfl, hcv, e, q⟩ | ⟨tp, cs, ws, rfl, hT, k, e, q⟩
  · exact call_isE C hz hf pins s σ H _ us Q I r ⟨c, cv, b, rfl, fun u ru => hcv.eq ru, e, q⟩
  · obtain ⟨u1, u2, rfl, r1, r2⟩ := vals2 r
    cases (show u2 = Value.ref tp from r2)
    cases (show u1 = Value.ref a from r1)
    obtain ⟨hget, _⟩ := I.pin (a, oe) (List.mem_append.mpr (.inl List.mem_cons_self))
    obtain ⟨vs, hv⟩ := hf
    have J : PySem.W.InstAt s.heap a oe D none := by
      obtain ⟨oc, od, oda, osl⟩ := oe
      obtain ⟨h1, h2⟩ := hz
      dsimp only at h1 h2 hv
      subst h1 h2 hv
      exact ⟨hget, rfl, rfl, trivial⟩
    obtain ⟨_, its, rv, o, h1, h2, n, h3⟩ := (show ObjOk X.prog X.w H s.heap tp (.tup cs) from I.hok tp _ hT)
    have e3 := ClsV.all k rv
    subst e3
    obtain ⟨oc, od, dt, sl⟩ := o
    simp only at h2 h3
    subst h2 h3
    exact PySem.W.kia_tup (PySem.W.handS_kitx_exc C.hg C.hk C.hs C.hd C.ha C.hn C.ht C.hm) I.kIn J h1 e (fun z => nomatch z) fun tk => ⟨.bl b, H, I.kept (t' := tk) fun _ _ z => z, rfl, q⟩
/-- the room that == of data wants -/
theorem hu64_of {A : Around} {k : Nat} (hr : Room k A) : A.units + 64 < cLine := Nat.lt_of_le_of_lt (Nat.le_refl _) hr.units
theorem same_new {H : Hp} {p : Addr} {o : HO} (h : H p = none) : Same H (upd H p o) := fun b x e => by
  rw [upd_ne (ne_of_none e h)]
  exact e
/-- an object unknown before may change -/
theorem same_mut {H H1 : Hp} {p : Addr} {o : HO} (s : Same H H1) (h : H p = none) : Same H (upd H1 p o) := fun b x e => by
  rw [upd_ne (ne_of_none e h)]
  exact s b x e
theorem sql_new {K : PySem.W.Frag} {H : Hp} {p : Addr} {xs : List V} : SqL K (upd H p (.lst xs)) p xs := SqL.of upd_same
theorem same_dp {K : PySem.W.Frag} {H H' : Hp} (s : Same H H') : ∀ (d : PyData) (v : V), Dp K H v d → Dp K H' v d := by
  intro d v h
  exact Dp.rec (motive_1 := fun v d _ => Dp K H' v d) (motive_2 := fun vs ds _ => DpAll K H' vs ds) .non (fun b => .bl b) (fun i => .int i) (fun x => .str x)
    (fun h1 _ ih => .lst (s.seq h1) ih) (fun h1 _ ih => .tup (by rcases h1 with h1 | h1
                                                                 · rcases h1 with h1 | ⟨o, h1⟩
                                                                   · exact .inl (.inl (s _ _ h1))
                                                                   · exact .inl (.inr ⟨o, s _ _ h1⟩)
                                                                 · exact .inr h1) ih) .nil (fun _ _ h1 h2 => .cons h1 h2) h
/-! lists of ints as data -/
def dInts (ns : List Int) : PyData := .list (ns.map PyData.int)
theorem dp_all_ints {K : PySem.W.Frag} {H : Hp} : ∀ ns : List Int, DpAll K H (ns.map V.int) (ns.map PyData.int)
  | [] => .nil
  | n :: r => .cons (.int n) (dp_all_ints r)
theorem dp_ints {K : PySem.W.Frag} {H : Hp} {a : Addr} {ns : List Int} (h : SqL K H a (ns.map V.int)) : Dp K H (.ref a) (dInts ns) := .lst h (dp_all_ints ns)
theorem eqv_ints : ∀ ns ms : List Int, PyData.eqvAll (ns.map PyData.int) (ms.map PyData.int) = decide (ns = ms)
  | [], [] => rfl
  | [], _ :: _ => rfl
  | _ :: _, [] => rfl
  | n :: r, m :: t => by
    show (PyData.eqv (.int n) (.int m) && PyData.eqvAll (r.map PyData.int) (t.map PyData.int)) = _
    rw [eqv_ints r t]
    show ((n == m) && decide (r = t)) = _
    by_cases h : n = m <;> by_cases h2 : r = t <;> simp [h, h2]
theorem eqv_dInts (ns ms : List Int) : PyData.eqv (dInts ns) (dInts ms) = decide (ns = ms) := eqv_ints ns ms
theorem canLay_ints : ∀ ns : List Int, (PyData.list (ns.map PyData.int)).canLay0 = true → True := fun _ _ => trivial
theorem ifT {c : Bool} {A B : Prop} (hc : c = true) (h : A) : if c = true then A else B := by
  rw [if_pos hc]
  exact h
theorem ifF {c : Bool} {A B : Prop} (hc : c = false) (h : B) : if c = true then A else B := by
  rw [hc, if_neg Bool.false_ne_true]
  exact h
/-- both ways of an if over a decided comparison -/
theorem iteD {p : Prop} [Decidable p] {A B : Prop} (h1 : p → A) (h2 : ¬ p → B) : if decide p = true then A else B := by
  by_cases h : p
  · rw [if_pos (decide_eq_true h)]
    exact h1 h
  · rw [if_neg (by simpa using h)]
    exact h2 h
theorem iteN {p : Prop} [Decidable p] {A B : Prop} (h1 : ¬ p → A) (h2 : p → B) : if (!decide p) = true then A else B := by
  by_cases h : p
  · rw [if_neg (by simpa using h)]
    exact h2 h
  · rw [if_pos (by simpa using h)]
    exact h1 h
theorem yes_if {σ : L2.St} {H : Hp} {A B : Hp → Prop} (h : A H) : tYes σ H (fun b H3 => if b = true then A H3 else B H3) := by
  show (if true = true then A H else B H)
  rw [if_pos rfl]
  exact h
abbrev Li (H : Hp) (p : Addr) (ns : List Int) : Prop := H p = some (.lst (ns.map V.int))
theorem szl {n : Nat} (h : n ≤ 1000000) : n < sizeLine := Nat.lt_of_le_of_lt h (by decide)
theorem szle {n : Nat} (h : n ≤ 1000000) : n ≤ sizeLine := Nat.le_of_lt (szl h)
theorem mem_int {ns : List Int} {i : Nat} {x : V} (hx : (ns.map V.int)[i]? = some x) : ∃ n, ns[i]? = some n ∧ x = V.int n := by
  rw [List.getElem?_map] at hx
  cases e : ns[i]? with
  | none => rw [e] at hx; cases hx
  | some u => rw [e] at hx; exact ⟨u, rfl, (Option.some.inj hx).symm⟩
theorem li_push {H : Hp} {p : Addr} {ns : List Int} {n : Int} : Li (upd H p (.lst (ns.map V.int ++ [V.int n]))) p (ns ++ [n]) := by
  show upd _ _ _ _ = _
  rw [upd_same, List.map_append]
  rfl
theorem take_succ {α : Type} {l : List α} {i : Nat} {x : α} (h : l[i]? = some x) : l.take (i + 1) = l.take i ++ [x] := by
  rw [List.take_add_one, h]
  rfl
/-! slices of lists -/
theorem cutV_map {α : Type} (f : α → V) (xs : List α) (lo hi : Option Int) : cutV (xs.map f) lo hi = ((xs.drop (HT.sIx xs.length 0 lo)).take (HT.sIx xs.length xs.length hi - HT.sIx xs.length 0 lo)).map f := by
  unfold cutV
  rw [List.length_map, List.map_take, List.map_drop]
theorem cut_to (xs : List V) (k : Nat) : cutV xs none (some (k : Int)) = xs.take k := by
  unfold cutV
  rw [HT.sIx_none, HT.sIx_nat, List.drop_zero, Nat.sub_zero]
  by_cases h : k ≤ xs.length
  · rw [Nat.min_eq_left h]
  · rw [Nat.min_eq_right (by omega), List.take_of_length_le (Nat.le_refl _), List.take_of_length_le (by omega)]
theorem cut_from (xs : List V) (k : Nat) : cutV xs (some (k : Int)) none = xs.drop k := by
  unfold cutV
  rw [HT.sIx_none, HT.sIx_nat]
  by_cases h : k ≤ xs.length
  · rw [Nat.min_eq_left h]
    exact List.take_of_length_le (by rw [List.length_drop]; exact Nat.le_refl _)
  · rw [Nat.min_eq_right (by omega), List.drop_of_length_le (by omega), List.take_nil, List.drop_of_length_le (by omega)]
theorem cut_fromto (xs : List V) (i j : Nat) : cutV xs (some (i : Int)) (some (j : Int)) = (xs.drop i).take (j - i) := by
  unfold cutV
  rw [HT.sIx_nat, HT.sIx_nat]
  by_cases h : i ≤ xs.length
  · rw [Nat.min_eq_left h]
    by_cases h2 : j ≤ xs.length
    · rw [Nat.min_eq_left h2]
    · rw [Nat.min_eq_right (by omega), List.take_of_length_le (by rw [List.length_drop]; exact Nat.le_refl _), List.take_of_length_le (by rw [List.length_drop]; omega)]
  · rw [show xs.drop (min i xs.length) = [] from List.drop_of_length_le (by omega), List.take_nil, List.drop_of_length_le (by omega), List.take_nil]
theorem sIx_neg (n d k : Nat) (h : 0 < k) : HT.sIx n d (some (-(k : Int))) = n - k := by
  show (if -(k : Int) < 0 then (-(k : Int) + (n : Int)).toNat else _) = _
  rw [if_pos (by omega)]
  omega
theorem cut_ton (xs : List V) (k : Nat) (h : 0 < k) : cutV xs none (some (-(k : Int))) = xs.take (xs.length - k) := by
  unfold cutV
  rw [HT.sIx_none, sIx_neg _ _ _ h, List.drop_zero, Nat.sub_zero]
theorem cut_fromn (xs : List V) (k : Nat) (h : 0 < k) : cutV xs (some (-(k : Int))) none = xs.drop (xs.length - k) := by
  unfold cutV
  rw [HT.sIx_none, sIx_neg _ _ _ h]
  exact List.take_of_length_le (by rw [List.length_drop]; exact Nat.le_refl _)

/-! own rules: methods and makings whose errors depend on the slots (for a try), keywords, an own __contains__ -/
section
variable {X : Cx} {CX : CXT} {k n : Nat} {C f : Addr} {fd : FuncData} {ps ks : List Str} {sp : Sp} {E : L2.St → XK} {dvs : List V} {ds : List Value} {o e : Expr} {es : List Expr} {kws : List Keyword} {m x : Str} {p apos pos : Pos} {ta : TE} {t tk : TA}
  {g : List Value → List Value → List Value} {gV : List V → List V → List V}
theorem run_at {pins : List (Addr × Obj)} {σ : L2.St} {H : Hp} {s : Shared} {Q : VK} {E : XK} {us0 us : List Value} {kw : List (Str × Value)} {vs : List V} (F : FnOk X.prog X.w X.K X.mg X.base CX k f fd ps sp) (hr : Room k X.A) (hx : PassesAt CX X σ E)
    (I : Inv X pins σ H s) (hb : BindsTo s fd ⟨us0, kw⟩ (ps.zip us)) (r : Vals vs us) (h : sp vs H Q E) : wpAny (model X.prog X.w) X.A (call (.ref f) us0 kw) (EP X pins σ Q) X.xe s := by
  refine wpAny_call (codeAny_mono (F.run X.A X.stack s H ⟨us0, kw⟩ us vs Q E hr I.env0 hb r h) fun r s' hq => ?_)
  cases r with
  | error er => exact hx pins H s er s' I hq
  | ok fl => cases fl with
    | ret u => exact I.after hq
    | next => exact hq.elim
    | brk => exact hq.elim
    | cont => exact hq.elim
/-- o.m(e, .., k = v, ..) -/
def tMA (C : Addr) (m : Str) (n l : Nat) (sp : Sp) (gV : List V → List V → List V) (E : L2.St → XK) (ta : TE) (t tk : TA) : TE := fun σ H Q => ta σ H fun x H1 => ∃ a dx fs, x = .ref a ∧ H1 a = some (.ins C dx fs) ∧ fs.lookup m = none ∧
  t σ H1 fun vs H2 => tk σ H2 fun zs H3 => vs.length = n ∧ zs.length = l ∧ sp (gV (x :: vs) zs) H3 Q (E σ)
theorem pe_mK {pl : Sem Bool} (he : PE X o ta) (c : Cls X.K C) (hm : Meth X.K C m f) (F : FnOk X.prog X.w X.K X.mg X.base CX k f fd ps sp) (hr : Room k X.A) (hb : KBn X.K fd ps (n + 1) ks g gV) (hx : ∀ σ, PassesAt CX X σ (E σ)) (ha : PA X (e :: es) t) (hkw : PK X kws tk)
    (hall : (backToKw pos (keywordEach kws X.env)).all (·.1.isSome) = true := by rfl) (hks : (backToKw pos (keywordEach kws X.env)).filterMap (·.1) = ks := by rfl)
    (hst : starEach (e :: es) X.env = (false, eval e X.env) :: starEach es X.env := by rfl) (hpl : ((backTo pos (starEach (e :: es) X.env)).any (·.1) || (backToKw pos (keywordEach kws X.env)).any (·.1.isNone)) = false := by rfl)
    (ht : eval (.Call (.Attribute o m apos) (e :: es) kws pos) X.env = (do
      let ov ← eval o X.env
      standAt apos.atName
      let (f, first) ← holding [ov] (getMethod ov m pl)
      callWith pos f first (backTo pos (starEach (e :: es) X.env)) (backToKw pos (keywordEach kws X.env))) := by rfl) :
    PE X (.Call (.Attribute o m apos) (e :: es) kws pos) (tMA C m n ks.length sp gV E ta t tk) := by
  refine ⟨fun pins s σ H Q I h => PySem.W.methodCall_KW (pl := pl) (thn (he.run pins s σ H _ I h) fun u s1 ⟨x, H1, I1, rx, a, dx, fs, ex, ea, l, q⟩ => ?_) ht⟩
  subst ex
  obtain rfl : u = Value.ref a := rx
  refine getmeth_ok I1 ea c hm l (PySem.W.callWith_KW (first := [.ref a]) (h₀ := X.base) I.ok.mod.kin hm.kp hall (thn (ha.run pos pins s1 σ H1 _ I1 q) fun us s2 ⟨vs, H2, I2, r, q2⟩ => ?_) hpl hst)
  refine thn (hkw.run pos pins s2 σ H2 _ I2 q2) fun ws s3 ⟨zs, H3, I3, rz, l1, l2, q3⟩ => ⟨I3.kIn, ?_⟩
  rw [hks]
  have r1 : Vals (V.ref a :: vs) (Value.ref a :: us) := .cons rfl r
  exact run_at F hr (hx σ) I3 (hb.to s3 (Value.ref a :: us) ws I3.kIn (by rw [List.length_cons, ← r.length, l1]) (rz.length.symm.trans l2)) (hb.rel r1 rz) q3
theorem pe_mK0 {pl : Sem Bool} (he : PE X o ta) (c : Cls X.K C) (hm : Meth X.K C m f) (F : FnOk X.prog X.w X.K X.mg X.base CX k f fd ps sp) (hr : Room k X.A) (hb : KBn X.K fd ps 1 ks g gV) (hx : ∀ σ, PassesAt CX X σ (E σ)) (hkw : PK X kws tk)
    (hall : (backToKw pos (keywordEach kws X.env)).all (·.1.isSome) = true := by rfl) (hks : (backToKw pos (keywordEach kws X.env)).filterMap (·.1) = ks := by rfl)
    (hpl : ((backTo pos (starEach [] X.env)).any (·.1) || (backToKw pos (keywordEach kws X.env)).any (·.1.isNone)) = false := by rfl)
    (ht : eval (.Call (.Attribute o m apos) [] kws pos) X.env = (do
      let ov ← eval o X.env
      standAt apos.atName
      let (f, first) ← holding [ov] (getMethod ov m pl)
      callWith pos f first (backTo pos (starEach [] X.env)) (backToKw pos (keywordEach kws X.env))) := by rfl) :
    PE X (.Call (.Attribute o m apos) [] kws pos) (tMA C m 0 ks.length sp gV E ta tNil tk) := by
  refine ⟨fun pins s σ H Q I h => PySem.W.methodCall_KW (pl := pl) (thn (he.run pins s σ H _ I h) fun u s1 ⟨x, H1, I1, rx, a, dx, fs, ex, ea, l, q⟩ => ?_) ht⟩
  subst ex
  obtain rfl : u = Value.ref a := rx
  refine getmeth_ok I1 ea c hm l (PySem.W.callWith_KW0 (first := [.ref a]) (h₀ := X.base) I.ok.mod.kin hm.kp hall (thn (hkw.run pos pins s1 σ H1 _ I1 q) fun ws s3 ⟨zs, H3, I3, rz, l1, l2, q3⟩ => ⟨I3.kIn, ?_⟩) hpl)
  rw [hks]
  have r1 : Vals ([V.ref a]) ([Value.ref a]) := .cons rfl .nil
  exact run_at F hr (hx σ) I3 (hb.to s3 [Value.ref a] ws I3.kIn rfl (rz.length.symm.trans l2)) (hb.rel r1 rz) q3
/-- o.m(e, ..), the wish of errors by the slots -/
def tMS (C : Addr) (m : Str) (sp : Sp) (dvs : List V) (E : L2.St → XK) (ta : TE) (t : TA) : TE := fun σ H Q => ta σ H fun x H1 => ∃ a dx fs, x = .ref a ∧ H1 a = some (.ins C dx fs) ∧ fs.lookup m = none ∧ t σ H1 fun vs H2 => sp (x :: (vs ++ dvs)) H2 Q (E σ)
theorem pe_mS {pl : Sem Bool} (he : PE X o ta) (c : Cls X.K C) (hm : Meth X.K C m f) (F : FnOk X.prog X.w X.K X.mg X.base CX k f fd ps sp) (hr : Room k X.A) (hb : Binds X.K fd ps ds) (hd : Vals dvs ds) (hx : ∀ σ, PassesAt CX X σ (E σ)) (ha : PA X (e :: es) t)
    (hst : starEach (e :: es) X.env = (false, eval e X.env) :: starEach es X.env := by rfl) (hpl : (backTo pos (starEach es X.env)).any (·.1) = false := by rfl)
    (ht : eval (.Call (.Attribute o m apos) (e :: es) [] pos) X.env = (do
      let ov ← eval o X.env
      standAt apos.atName
      let (f, first) ← holding [ov] (getMethod ov m pl)
      callWith pos f first (backTo pos (starEach (e :: es) X.env)) (backToKw pos (keywordEach [] X.env))) := by rfl) :
    PE X (.Call (.Attribute o m apos) (e :: es) [] pos) (tMS C m sp dvs E ta t) := by
  refine ⟨fun pins s σ H Q I h => PySem.W.methodCall_KW (pl := pl) (thn (he.run pins s σ H _ I h) fun u s1 ⟨x, H1, I1, rx, a, dx, fs, ex, ea, l, q⟩ => ?_) ht⟩
  subst ex
  obtain rfl : u = Value.ref a := rx
  refine getmeth_ok I1 ea c hm l (PySem.W.callWith_K (first := [.ref a]) (h₀ := X.base) I.ok.mod.kin hm.kp (thn (ha.run pos pins s1 σ H1 _ I1 q) fun us s2 ⟨vs, H2, I2, r, q2⟩ => ⟨I2.kIn, ?_⟩) hst hpl)
  have r2 : Vals (V.ref a :: (vs ++ dvs)) (Value.ref a :: us ++ ds) := .cons rfl (r.append hd)
  have hl : (Value.ref a :: us ++ ds).length = ps.length := by rw [← r2.length]; exact F.len _ _ _ _ q2
  exact run_at (us0 := Value.ref a :: us) F hr (hx σ) I2 (hb s2 (Value.ref a :: us) I2.kIn hl) r2 q2
theorem pe_mS0 {pl : Sem Bool} (he : PE X o ta) (c : Cls X.K C) (hm : Meth X.K C m f) (F : FnOk X.prog X.w X.K X.mg X.base CX k f fd ps sp) (hr : Room k X.A) (hb : Binds X.K fd ps ds) (hd : Vals dvs ds) (hx : ∀ σ, PassesAt CX X σ (E σ))
    (ht : eval (.Call (.Attribute o m apos) [] [] pos) X.env = (do
      let ov ← eval o X.env
      standAt apos.atName
      let (f, first) ← holding [ov] (getMethod ov m pl)
      callWith pos f first (backTo pos (starEach [] X.env)) (backToKw pos (keywordEach [] X.env))) := by rfl) :
    PE X (.Call (.Attribute o m apos) [] [] pos) (tMS C m sp dvs E ta tNil) := by
  refine ⟨fun pins s σ H Q I h => PySem.W.methodCall_KW (pl := pl) (thn (he.run pins s σ H _ I h) fun u s1 ⟨x, H1, I1, rx, a, dx, fs, ex, ea, l, q⟩ => ?_) ht⟩
  subst ex
  obtain rfl : u = Value.ref a := rx
  have r2 : Vals (V.ref a :: ([] ++ dvs)) (Value.ref a :: [] ++ ds) := .cons rfl hd
  have hl : (Value.ref a :: [] ++ ds).length = ps.length := by rw [← r2.length]; exact F.len _ _ _ _ q
  refine getmeth_ok I1 ea c hm l (PySem.W.callWith_K0 (first := [.ref a]) I1.kIn hm.kp (run_at (us0 := [Value.ref a]) F hr (hx σ) I1 (hb s1 [Value.ref a] I1.kIn hl) r2 q))
/-- C(e, ..), the wish of errors by the slots -/
def tKS (C : Addr) (sp : Sp) (dvs : List V) (E : L2.St → XK) (t : TA) : TE := fun σ H Q => t σ H fun vs H1 => ∀ x dx, H1 x = none → H1 dx = none → dx ≠ x →
  sp (.ref x :: (vs ++ dvs)) (upd (upd H1 dx (.own x)) x (.ins C dx [])) (fun v H2 => v = .non ∧ Q (.ref x) H2) (E σ)
theorem pe_kS (M : Mk X.K C f) (F : FnOk X.prog X.w X.K X.mg X.base CX k f fd ps sp) (hr : Room (k + 1) X.A) (hg : Gl X x) (hm : X.mg x = some (.ref C)) (hb : Binds X.K fd ps ds) (hd : Vals dvs ds) (hx : ∀ σ, PassesAt CX X σ (E σ)) (ha : PA X (e :: es) t)
    (hdb : (x == ("__debug__" : Str)) = false := by decide) (he : starEach (e :: es) X.env = (false, eval e X.env) :: starEach es X.env := by rfl) (hpl : (backTo pos (starEach es X.env)).any (·.1) = false := by rfl) :
    PE X (.Call (.Name x p) (e :: es) [] pos) (tKS C sp dvs E t) := by
  refine ⟨fun pins s σ H Q I h => wpAny_Call_Name_kw (ld_glob I hg hm (PySem.W.callWith_K (h₀ := X.base) I.ok.mod.kin M.kp (thn (ha.run pos pins s σ H _ I h) fun us s1 ⟨vs, H1, I1, r, q⟩ => ⟨I1.kIn, ?_⟩) he hpl) hdb)⟩
  have hq := q (s1.heap.objs.size + 1) s1.heap.objs.size (I1.hok.fresh (Nat.le_succ _)) (I1.hok.fresh (Nat.le_refl _)) (Nat.ne_of_lt (Nat.lt_succ_self _))
  have I2 := Inv.made (C := C) I1
  have r2 : Vals (V.ref (s1.heap.objs.size + 1) :: (vs ++ dvs)) (Value.ref (s1.heap.objs.size + 1) :: us ++ ds) := .cons rfl (r.append hd)
  have hl : (Value.ref (s1.heap.objs.size + 1) :: us ++ ds).length = ps.length := by rw [← r2.length]; exact F.len _ _ _ _ hq
  refine wpAny_call (make_map (f := f) I1.kIn M.makes M.init (beq_iff_eq.mp M.fn) (codeAny_mono (F.run _ X.stack _ _ ⟨Value.ref (s1.heap.objs.size + 1) :: us, []⟩ (Value.ref (s1.heap.objs.size + 1) :: us ++ ds) _ _ (E σ) (hr.make C us [])
    (I2.env0.make C us []) (hb _ (Value.ref (s1.heap.objs.size + 1) :: us) I2.kIn hl) r2 hq) fun r s' hz => ?_))
  cases r with
  | error er => exact hx σ pins _ _ er s' I2 hz
  | ok fl => cases fl with
    | ret u =>
      obtain ⟨v, H', I3, rv, ev, q3⟩ := I2.after hz
      subst ev
      exact ⟨rv, ⟨V.ref (s1.heap.objs.size + 1), H', I3, rfl, q3⟩⟩
    | next => exact hz.elim
    | brk => exact hz.elim
    | cont => exact hz.elim
theorem passAll {X : Cx} (σ : L2.St) : PassesAt (L2.CX X.prog X.w) X σ E0 := fun pins H s er s' I h => passL pins σ H s er s' I h
/-- y in o, o of a class with its own __contains__ -/
def rInOwn (C : Addr) (sp : Sp) (E : XK) (neg : Bool) : R2 := fun y x H Q => ∃ a dx fs, x = .ref a ∧ H a = some (.ins C dx fs) ∧ sp [.ref a, y] H (fun v H' => ∃ b : Bool, v = .bl b ∧ Q (.bl (b != neg)) H') E
theorem has_own {pins : List (Addr × Obj)} {σ : L2.St} {H : Hp} {s : Shared} {E : XK} {a dx : Addr} {fs : List (Str × V)} {y : V} {v : Value} {Q : Bool → Hp → Prop} (c : Cls X.K C) (hm : Meth X.K C "__contains__" f) (F : FnOk X.prog X.w X.K X.mg X.base CX k f fd ps sp) (hr : Room k X.A)
    (hb : Binds X.K fd ps []) (hx : Passes CX X E) (I : Inv X pins σ H s) (ea : H a = some (.ins C dx fs)) (ry : RelV y v) (h : sp [.ref a, y] H (fun z H' => ∃ b : Bool, z = .bl b ∧ Q b H') E) :
    wpAny (model X.prog X.w) X.A (contains (.ref a) v) (fun b s' => ∃ H', Inv X pins σ H' s' ∧ Q b H') X.xe s := by
  obtain ⟨mA, O, _⟩ := ins_get I.hok ea
  obtain ⟨od, J, _⟩ := O.look
  unfold contains
  refine wpAny_holding (wpAny_bind (wpAny_bind (J.type.here ((PySem.W.looks_findIn I.kIn hm.at_).here ?_))))
  rw [if_neg (by simp)]
  refine wpAny_bind (PySem.W.unlessNone_K I.kIn J hm.at_ hm.fn (wpAny_mono (run_fn (us := [.ref a, v]) (vs := [.ref a, y]) F hr hb .nil hx I (.cons rfl (.cons ry .nil)) h) (fun u s' hu => ?_) fun _ _ z => z))
  obtain ⟨z, H', I', rz, b, rfl, q⟩ := hu
  obtain rfl : u = Value.bool b := rz
  exact wpAny_truthy_bool ⟨H', I', q⟩
theorem op_inOwn {E : XK} (c : Cls X.K C) (hm : Meth X.K C "__contains__" f) (F : FnOk X.prog X.w X.K X.mg X.base CX k f fd ps sp) (hr : Room k X.A) (hb : Binds X.K fd ps []) (hx : Passes CX X E) : OpR X (compareOp .In) (rInOwn C sp E false) := by
  intro pins s σ H y x v u Q I ry rx h
  obtain ⟨a, dx, fs, rfl, ea, h⟩ := h
  obtain rfl : u = Value.ref a := rx
  refine wpAny_bind (wpAny_mono (has_own (Q := fun b H' => Q (.bl b) H') c hm F hr hb hx I ea ry (by simpa using h)) (fun b s' hz => ?_) fun _ _ z => z)
  obtain ⟨H', I', q⟩ := hz
  exact wpAny_pure ⟨.bl b, H', I', rfl, q⟩
theorem op_notInOwn {E : XK} (c : Cls X.K C) (hm : Meth X.K C "__contains__" f) (F : FnOk X.prog X.w X.K X.mg X.base CX k f fd ps sp) (hr : Room k X.A) (hb : Binds X.K fd ps []) (hx : Passes CX X E) : OpR X (compareOp .NotIn) (rInOwn C sp E true) := by
  intro pins s σ H y x v u Q I ry rx h
  obtain ⟨a, dx, fs, rfl, ea, h⟩ := h
  obtain rfl : u = Value.ref a := rx
  refine wpAny_bind (wpAny_mono (has_own (Q := fun b H' => Q (.bl (!b)) H') c hm F hr hb hx I ea ry (by simpa using h)) (fun b s' hz => ?_) fun _ _ z => z)
  obtain ⟨H', I', q⟩ := hz
  exact wpAny_pure ⟨.bl (!b), H', I', rfl, q⟩
end
/-! the same rules with K named (in comprehensions and trys the context is a bound one) -/
section
variable {X : Cx} {K : PySem.W.Frag}
theorem pe_fldK {e : Expr} {ta : TE} {f : Str} {pos : Pos} (h : X.K = K) (he : PE X e ta) (hb : attributeBase e f X.env (eval e X.env) = eval e X.env) : PE X (.Attribute e f pos) (tFld K ta f) := h ▸ pe_fld he hb
theorem ixK {r : PySem.W.Frag → V → V → Hp → VK → Prop} (h : X.K = K) (q : IxR X (r X.K)) : IxR X (r K) := h ▸ q
theorem slK {r : PySem.W.Frag → V → Option Int → Option Int → Hp → VK → Prop} (h : X.K = K) (q : SlR X (r X.K)) : SlR X (r K) := h ▸ q
theorem opK {f : Value → Value → Sem Value} {r : PySem.W.Frag → R2} (h : X.K = K) (q : OpR X f (r X.K)) : OpR X f (r K) := h ▸ q
theorem callK {v : Value} {r : PySem.W.Frag → List V → Hp → VK → Prop} (h : X.K = K) (q : CallR X v (r X.K)) : CallR X v (r K) := h ▸ q
def rLenK (K : PySem.W.Frag) : List V → Hp → VK → Prop := fun xs H Q => ∃ x n, xs = [x] ∧ LenV K x H n ∧ Q (.int n) H
def rListK (K : PySem.W.Frag) : List V → Hp → VK → Prop := fun xs H Q => ∃ p ys, xs = [.ref p] ∧ (SqL K H p ys ∨ SqT K H p ys) ∧ ∀ l, H l = none → Q (.ref l) (upd H l (.lst ys))
end
/-- what the top says of an own class without errors -/
structure ClsT (K : PySem.W.Frag) (mg : Str → Option Value) (nm : Str) (C : Addr) : Prop where
  cl : Cls K C
  mgC : mg nm = some (.ref C)
  ha : PySem.W.findIn K (.ref C) "__class__" = some (some (.builtin "object.__class__"))
  hn : PySem.W.specialIn K (.builtin "object.__class__") "__get__" = some (some (.builtin "getset_descriptor.__get__"))
  ht : PySem.W.takesIn K (.builtin "object.__class__") = some true
  hm : PySem.W.mroIn K C (.type "object") = some true
theorem kit_self {K : PySem.W.Frag} {t : Value} (h : (t == t) = true) : PySem.W.kitOne K t t = some true := by
  unfold PySem.W.kitOne
  rw [if_pos h]
theorem ClsT.ty {K : PySem.W.Frag} {mg : Str → Option Value} {nm : Str} {C : Addr} (c : ClsT K mg nm C) {H : Hp} {a dx : Addr} {fs : List (Str × V)} (e : H a = some (.ins C dx fs)) : TyX K H (.ref a) (.ref C) := .base (.ins e c.cl c.ha c.hn c.ht c.hm)
/-! one rule or another, by the proof's choice -/
theorem pe_either {X : Cx} {e : Expr} {t1 t2 : TE} (h1 : PE X e t1) (h2 : PE X e t2) : PE X e (fun σ H Q => t1 σ H Q ∨ t2 σ H Q) := ⟨fun pins s σ H Q I h => h.elim (h1.run pins s σ H Q I) (h2.run pins s σ H Q I)⟩
def iSeq (K : PySem.W.Frag) (tl : TE) : TI := fun σ H R => iList K tl σ H R ∨ iTup K tl σ H R
theorem pi_seq {X : Cx} {tg l : Expr} {tl : TE} (h : PE X l tl) : PI X tg l (iSeq X.K tl) := ⟨fun pins s σ H R I h' => h'.elim ((pi_list h).run pins s σ H R I) ((pi_tup h).run pins s σ H R I)⟩
theorem hu_of {A : Around} {k : Nat} (hr : Room k A) : A.units + 1 < cLine := by
  have := hr.un
  omega

structure ExcT (K : PySem.W.Frag) (mg : Str → Option Value) (nm : Str) (C : Addr) : Prop where
  gC : mg nm = some (.ref C)
  xP : PySem.W.excIn K C [.type "ValueError", .type "Exception", .type "BaseException", .type "object"] "ValueError.__new__" = true
  kC : PySem.W.keepIn K (.ref C) = true
  bP : PySem.W.subIn K (.ref C) (.type "BaseException") = some true
  tP : PySem.W.typeIn K (.ref C) = some (.type "type")
  iP : PySem.W.isClsIn K C = true
  cP : ExcC K C
  vP : PySem.W.kitOne K (.ref C) (.type "ValueError") = some true
structure Env (K : PySem.W.Frag) (mg : Str → Option Value) where
  c_MeridianError : Addr
  c_BadArgument : Addr
  a_Span : Addr
  a_Span_init : Addr
  d_Span_init : FuncData
  a_Span_contains : Addr
  d_Span_contains : FuncData
  a_Span_is_past : Addr
  d_Span_is_past : FuncData
  a_Span_is_ahead : Addr
  d_Span_is_ahead : FuncData
  a_Span_is_before : Addr
  d_Span_is_before : FuncData
  a_common_span : Addr
  d_common_span : FuncData
  a__law_cell : Addr
  d__law_cell : FuncData
  a__law_is_int : Addr
  d__law_is_int : FuncData
  a__law_number : Addr
  d__law_number : FuncData
  a__law_same : Addr
  d__law_same : FuncData
  a__law_refused : Addr
  d__law_refused : FuncData
  a__law_none : Addr
  d__law_none : FuncData
  a__law_ends : Addr
  d__law_ends : FuncData
  a__law_answers : Addr
  d__law_answers : FuncData
  a_law : Addr
  d_law : FuncData
  F_Span_init : Fun K "__init__" "Span.__init__" s_Span_init a_Span_init d_Span_init
  b_Span_init : Binds K d_Span_init ["self", "low", "high"] []
  F_Span_contains : Fun K "__contains__" "Span.__contains__" s_Span_contains a_Span_contains d_Span_contains
  b_Span_contains : Binds K d_Span_contains ["self", "time"] []
  F_Span_is_past : Fun K "is_past" "Span.is_past" s_Span_is_past a_Span_is_past d_Span_is_past
  b_Span_is_past : Binds K d_Span_is_past ["self", "time"] []
  F_Span_is_ahead : Fun K "is_ahead" "Span.is_ahead" s_Span_is_ahead a_Span_is_ahead d_Span_is_ahead
  b_Span_is_ahead : Binds K d_Span_is_ahead ["self", "time"] []
  F_Span_is_before : Fun K "is_before" "Span.is_before" s_Span_is_before a_Span_is_before d_Span_is_before
  b_Span_is_before : Binds K d_Span_is_before ["self", "other"] []
  F_common_span : Fun K "common_span" "common_span" s_common_span a_common_span d_common_span
  b_common_span : Binds K d_common_span ["spans"] []
  g_common_span : mg "common_span" = some (.ref a_common_span)
  F__law_cell : Fun K "_law_cell" "_law_cell" s__law_cell a__law_cell d__law_cell
  b__law_cell : Binds K d__law_cell ["script", "k"] []
  g__law_cell : mg "_law_cell" = some (.ref a__law_cell)
  F__law_is_int : Fun K "_law_is_int" "_law_is_int" s__law_is_int a__law_is_int d__law_is_int
  b__law_is_int : Binds K d__law_is_int ["thing"] []
  g__law_is_int : mg "_law_is_int" = some (.ref a__law_is_int)
  F__law_number : Fun K "_law_number" "_law_number" s__law_number a__law_number d__law_number
  b__law_number : Binds K d__law_number ["cell"] []
  g__law_number : mg "_law_number" = some (.ref a__law_number)
  F__law_same : Fun K "_law_same" "_law_same" s__law_same a__law_same d__law_same
  b__law_same : Binds K d__law_same ["actual", "due"] []
  g__law_same : mg "_law_same" = some (.ref a__law_same)
  F__law_refused : Fun K "_law_refused" "_law_refused" s__law_refused a__law_refused d__law_refused
  b__law_refused : Binds K d__law_refused ["low", "high"] []
  g__law_refused : mg "_law_refused" = some (.ref a__law_refused)
  F__law_none : Fun K "_law_none" "_law_none" s__law_none a__law_none d__law_none
  b__law_none : Binds K d__law_none [] []
  g__law_none : mg "_law_none" = some (.ref a__law_none)
  F__law_ends : Fun K "_law_ends" "_law_ends" s__law_ends a__law_ends d__law_ends
  b__law_ends : Binds K d__law_ends ["cell", "other"] []
  g__law_ends : mg "_law_ends" = some (.ref a__law_ends)
  F__law_answers : Fun K "_law_answers" "_law_answers" s__law_answers a__law_answers d__law_answers
  b__law_answers : Binds K d__law_answers ["span", "low", "high", "time"] []
  g__law_answers : mg "_law_answers" = some (.ref a__law_answers)
  F_law : Fun K "law" "law" s_law a_law d_law
  b_law : Binds K d_law ["script"] []
  e_MeridianError : ExcT K mg "MeridianError" c_MeridianError
  u_MeridianError_MeridianError : PySem.W.exmOne K (.ref c_MeridianError) (.ref c_MeridianError) = some true
  q_MeridianError_MeridianError : PySem.W.kitOne K (.ref c_MeridianError) (.ref c_MeridianError) = some true
  u_MeridianError_BadArgument : PySem.W.exmOne K (.ref c_MeridianError) (.ref c_BadArgument) = some false
  q_MeridianError_BadArgument : PySem.W.kitOne K (.ref c_MeridianError) (.ref c_BadArgument) = some false
  e_BadArgument : ExcT K mg "BadArgument" c_BadArgument
  u_BadArgument_MeridianError : PySem.W.exmOne K (.ref c_BadArgument) (.ref c_MeridianError) = some true
  q_BadArgument_MeridianError : PySem.W.kitOne K (.ref c_BadArgument) (.ref c_MeridianError) = some true
  u_BadArgument_BadArgument : PySem.W.exmOne K (.ref c_BadArgument) (.ref c_BadArgument) = some true
  q_BadArgument_BadArgument : PySem.W.kitOne K (.ref c_BadArgument) (.ref c_BadArgument) = some true
  k_Span : ClsT K mg "Span" a_Span
  n_Span_low : NoAttr K a_Span "low"
  n_Span_high : NoAttr K a_Span "high"
  M_Span : Mk K a_Span a_Span_init
  m_Span_contains : Meth K a_Span "__contains__" a_Span_contains
  m_Span_is_past : Meth K a_Span "is_past" a_Span_is_past
  m_Span_is_ahead : Meth K a_Span "is_ahead" a_Span_is_ahead
  m_Span_is_before : Meth K a_Span "is_before" a_Span_is_before
  z_max : mg "max" = none
  z_min : mg "min" = none
  z_len : mg "len" = none
  z_abs : mg "abs" = none
  z_int : mg "int" = none
  z_isinstance : mg "isinstance" = none
  z_bool : mg "bool" = none
  z_range : mg "range" = none
  z_list : mg "list" = none
section
variable {P : Program} {w : World} {K : PySem.W.Frag} {mg : Str → Option Value} {base : Heap}
--PART /work/steering/wip/tools/pre.lean


--PART /work/steering/wip/tools/own.lean


--PART /work/steering/wip/parts/rets.lean

--PART /work/steering/wip/parts/num.lean
/-! ### base 128 -/
def vint (n : Int) : List Int := if n < 128 then [n] else (n % 128 + 128) :: vint (n / 128)
termination_by n.toNat
decreasing_by omega
theorem vint_lt {n : Int} (h : n < 128) : vint n = [n] := by rw [vint, if_pos h]
theorem vint_ge {n : Int} (h : ¬ n < 128) : vint n = (n % 128 + 128) :: vint (n / 128) := by rw [vint, if_neg h]
def NB : Int := 128 ^ 100
theorem vint_len : ∀ (k : Nat) (n : Int), n < 128 ^ (k + 1) → (vint n).length ≤ k + 1
  | 0, n, h => by
    have h' : n < 128 := by simpa using h
    rw [vint_lt h']
    exact Nat.le_refl _
  | k + 1, n, h => by
    by_cases c : n < 128
    · rw [vint_lt c]
      show 1 ≤ _
      omega
    · rw [vint_ge c, List.length_cons]
      have := vint_len k (n / 128) (by
        have e : (128 : Int) ^ (k + 1 + 1) = 128 ^ (k + 1) * 128 := Int.pow_succ ..
        rw [e] at h
        exact Int.ediv_lt_of_lt_mul (by decide) h)
      omega
theorem vint_len100 {n : Int} (h : n < NB) : (vint n).length ≤ 100 := vint_len 99 n h
theorem vint_ne (n : Int) : vint n ≠ [] := by
  by_cases c : n < 128
  · rw [vint_lt c]; simp
  · rw [vint_ge c]; simp
theorem vint_pos (n : Int) : 1 ≤ (vint n).length := by
  have := vint_ne n
  cases e : vint n with
  | nil => exact absurd e this
  | cons a r => simp
theorem vint_byte : ∀ (k : Nat) (n : Int), n < 128 ^ (k + 1) → 0 ≤ n → ∀ b ∈ vint n, 0 ≤ b ∧ b < 256
  | 0, n, h, h0, b, hb => by
    have h' : n < 128 := by simpa using h
    rw [vint_lt h'] at hb
    have : b = n := by simpa using hb
    omega
  | k + 1, n, h, h0, b, hb => by
    by_cases c : n < 128
    · rw [vint_lt c] at hb
      have : b = n := by simpa using hb
      omega
    · rw [vint_ge c] at hb
      rcases List.mem_cons.mp hb with e | e
      · omega
      · exact vint_byte k (n / 128) (by
          have e : (128 : Int) ^ (k + 1 + 1) = 128 ^ (k + 1) * 128 := Int.pow_succ ..
          rw [e] at h
          exact Int.ediv_lt_of_lt_mul (by decide) h) (by omega) b e
theorem vint_byte_NB {n : Int} (h : n < NB) (h0 : 0 ≤ n) : ∀ b ∈ vint n, 0 ≤ b ∧ b < 256 := vint_byte 99 n h h0
/-! ### numbers of the law -/
def lawNum (c : Int) : Int := if c < 10 ^ 18 then ([0, 1, 127, 128, 129, 16383, 16384, 16385, c] : List Int).getD (c % 9).toNat 0 else c % 10 ^ 60
theorem lawNum_lt {c : Int} (h : 0 ≤ c) : 0 ≤ lawNum c ∧ lawNum c < 10 ^ 60 := by
  unfold lawNum
  by_cases k : c < 10 ^ 18
  · rw [if_pos k]
    obtain ⟨j, hj, e⟩ : ∃ j : Nat, j < 9 ∧ (c % 9).toNat = j := ⟨_, by omega, rfl⟩
    rw [e]
    match j, hj with
    | 0, _ | 1, _ | 2, _ | 3, _ | 4, _ | 5, _ | 6, _ | 7, _ => exact ⟨by simp, by simp⟩
    | 8, _ => exact ⟨h, by show c < _; omega⟩
  · rw [if_neg k]
    exact ⟨Int.emod_nonneg _ (by decide), Int.emod_lt_of_pos _ (by decide)⟩
theorem num_NB {n : Int} (h : n < 10 ^ 60) : n < NB := Int.lt_of_lt_of_le h (by decide +kernel)
theorem canLay_dints : ∀ ns : List Int, PyData.canLayAll0 (ns.map PyData.int) = true
  | [] => rfl
  | n :: r => by
    show (PyData.canLay0 (.int n) && PyData.canLayAll0 (r.map PyData.int)) = true
    rw [canLay_dints r]
    rfl
theorem depth_dints : ∀ ns : List Int, PyData.depthAll (ns.map PyData.int) = 0
  | [] => by unfold PyData.depthAll; rfl
  | n :: r => by
    show PyData.depthAll (.int n :: r.map PyData.int) = 0
    unfold PyData.depthAll
    rw [depth_dints r]
    unfold PyData.depth
    rfl
theorem shaped_dInts (ns : List Int) : SeqAt.shaped (dInts ns) = true := by
  unfold SeqAt.shaped dInts
  rw [show PyData.canLay0 (.list (ns.map PyData.int)) = true from by unfold PyData.canLay0; exact canLay_dints ns]
  have : PyData.depth (.list (ns.map PyData.int)) = 1 := by
    unfold PyData.depth
    rw [depth_dints]
  rw [this]
  decide

--PART /work/steering/wip/parts/lawnum.lean
/-! ### the law's own helpers -/
def cell (ns : List Int) (k : Int) : Int := ((ns.getD k.toNat 0).natAbs : Int)
theorem cell_nn (ns : List Int) (k : Int) : 0 ≤ cell ns k := Int.natCast_nonneg _
def sp__law_cell (T : Env K mg) : Sp := fun vs H Q E => ∃ (a : Addr) (ns : List Int) (k : Int), vs = [.ref a, .int k] ∧ SqL K H a (ns.map V.int) ∧ 0 ≤ k ∧ Q (.int (cell ns k)) H
theorem ok__law_cell (T : Env K mg) : FnOk P w K mg base (L2.CX P w) 1 T.a__law_cell T.d__law_cell ["script", "k"] (sp__law_cell T) := by
  refine T.F__law_cell.okX sc__law_cell (fun vs H Q E h => by obtain ⟨_, _, _, rfl, _⟩ := h; rfl) (fun cdv A outer s H vs Q E hr h => ?_)
  obtain ⟨a, ns, k, rfl, hS, hk, h1⟩ := h
  refine ⟨_, (pss_cons (ps_if (pt_cmpR op_lt (pv 1) (pe_callB call_len (by rfl) T.z_len (by decide +kernel) (pa_cons (pv 0) pa_nil)) (nomark _)) (pss_one (ps_ret (pe_callB call_abs (by rfl) T.z_abs (by decide +kernel) (pa_cons (pe_callTy call_int1 (by rfl) T.z_int (by decide +kernel) (pa_cons (pe_ix ix_list (pv 0) (pv 1) (fun _ _ => rfl)) pa_nil)) pa_nil)))) pss_nil)
      (pss_one (ps_ret pe_int))), ?_⟩
  obtain ⟨j, rfl⟩ : ∃ j : Nat, k = (j : Int) := ⟨k.toNat, by omega⟩
  have hc : cell ns (j : Int) = ((ns.getD j 0).natAbs : Int) := rfl
  refine ⟨_, rfl, _, rfl, _, _, rfl, .inl ⟨_, hS, rfl⟩, _, _, rfl, rfl, _, rfl, iteD (fun c => ?_) (fun c => ?_)⟩
  · rw [List.length_map] at c
    have hj : j < ns.length := by omega
    refine ⟨_, rfl, _, rfl, a, _, _, _, rfl, rfl, hS, at_of (j := j) (v := V.int (ns.getD j 0)) rfl (by rw [List.getElem?_map, List.getD_eq_getElem?_getD, List.getElem?_eq_getElem hj]; rfl), .inl ⟨_, rfl, _, rfl, ?_⟩⟩
    have e : (if ns.getD j 0 < 0 then -ns.getD j 0 else ns.getD j 0) = cell ns (j : Int) := by
      rw [hc]
      split <;> omega
    show Q (V.int (if ns.getD j 0 < 0 then -ns.getD j 0 else ns.getD j 0)) H
    rw [e]
    exact h1
  · rw [List.length_map] at c
    show Q (.int 0) H
    have e : cell ns (j : Int) = 0 := by
      rw [hc, List.getD_eq_getElem?_getD, List.getElem?_eq_none (by omega)]
      rfl
    rw [e] at h1
    exact h1
def sp__law_is_int (T : Env K mg) : Sp := fun vs H Q E => ∃ (i : Int), vs = [.int i] ∧ Q (.bl true) H
theorem ok__law_is_int (T : Env K mg) : FnOk P w K mg base (L2.CX P w) 1 T.a__law_is_int T.d__law_is_int ["thing"] (sp__law_is_int T) := by
  refine T.F__law_is_int.okX sc__law_is_int (fun vs H Q E h => by obtain ⟨_, rfl, _⟩ := h; rfl) (fun cdv A outer s H vs Q E hr h => ?_)
  obtain ⟨i, rfl, h1⟩ := h
  refine ⟨_, (pss_one (ps_ret (pe_and (pe_callB call_isi (by rfl) T.z_isinstance (by decide +kernel) (pa_cons (pv 0) (pa_cons (pe_bltn (v := .ty "int") (by rfl) T.z_int (by decide +kernel) rfl) pa_nil))) (pe_one (pe_not (pe_callB call_isi (by rfl) T.z_isinstance (by decide +kernel) (pa_cons (pv 0) (pa_cons (pe_bltn (v := .ty "bool") (by rfl) T.z_bool (by decide +kernel) rfl) pa_nil)))))))), ?_⟩
  refine ⟨_, rfl, _, _, _, _, _, rfl, .ty _, .base (.int _), kit_ty (b := "int") (r := true) (by decide +kernel), _, rfl, iteT ?_⟩
  exact ⟨_, rfl, _, _, _, _, _, rfl, .ty _, .base (.int _), kit_ty (b := "bool") (r := false) (by decide +kernel), _, rfl, h1⟩

--PART /work/steering/wip/parts/lawnumber.lean
def sp__law_number (T : Env K mg) : Sp := fun vs H Q E => ∃ c : Int, vs = [.int c] ∧ 0 ≤ c ∧ ∀ H', Same H H' → Q (.int (lawNum c)) H'
theorem ok__law_number (T : Env K mg) : FnOk P w K mg base (L2.CX P w) 1 T.a__law_number T.d__law_number ["cell"] (sp__law_number T) := by
  refine T.F__law_number.okX sc__law_number (fun vs H Q E h => by obtain ⟨n, rfl, _⟩ := h; rfl) (fun cdv A outer s H vs Q E hr h => ?_)
  obtain ⟨c, rfl, hc, h1⟩ := h
  refine ⟨_, (pss_cons (ps_if (pt_cmpR op_lt (pv 0) (pe_op op_pow pe_int pe_int) (nomark _)) (pss_one (ps_ret (pe_ix ix_list (pe_lst (pa_cons pe_int (pa_cons pe_int (pa_cons pe_int (pa_cons pe_int (pa_cons pe_int (pa_cons pe_int (pa_cons pe_int (pa_cons pe_int (pa_cons (pv 0) pa_nil)))))))))) (pe_op op_mod (pe_callTy call_int1 (by rfl) T.z_int (by decide +kernel) (pa_cons (pv 0) pa_nil)) pe_int) (fun _ _ => rfl)))) pss_nil)
      (pss_one (ps_ret (pe_op op_mod (pe_callTy call_int1 (by rfl) T.z_int (by decide +kernel) (pa_cons (pv 0) pa_nil)) (pe_op op_pow pe_int pe_int))))), ?_⟩
  refine ⟨_, rfl, _, _, rfl, rfl, ⟨by decide, by decide, by decide⟩, _, _, rfl, rfl, _, rfl, iteD (fun k => ?_) (fun k => ?_)⟩
  · have k : c < 10 ^ 18 := k
    refine ⟨_, rfl, (by show 9 ≤ sizeLine; decide), fun p np => ?_⟩
    refine ⟨_, rfl, .inl ⟨_, rfl, _, _, rfl, rfl, by show (0 : Int) < _; decide, p, _, _, .int (lawNum c), rfl, rfl, SqL.of upd_same, at_of (j := (c % 9).toNat) (by omega) ?_, h1 _ (same_new np)⟩⟩
    unfold lawNum
    rw [if_pos k]
    obtain ⟨j, hj, e⟩ : ∃ j : Nat, j < 9 ∧ (c % 9).toNat = j := ⟨_, by omega, rfl⟩
    rw [e]
    match j, hj with
    | 0, _ | 1, _ | 2, _ | 3, _ | 4, _ | 5, _ | 6, _ | 7, _ | 8, _ => simp
  · have k : ¬ c < 10 ^ 18 := k
    refine ⟨_, rfl, .inl ⟨_, rfl, _, _, rfl, rfl, ⟨by decide, by decide, by decide⟩, _, _, rfl, rfl, by show (0 : Int) < _; decide, ?_⟩⟩
    have e : lawNum c = c % 10 ^ 60 := if_neg k
    have := h1 H (Same.refl H)
    rw [e] at this
    exact this

--PART /work/steering/wip/parts/spans.lean
/-! ### spans -/
theorem low_high : ¬ (("low" : Str) = "high") := by decide +kernel
def spf (lo hi : Int) : List (Str × V) := putF "high" (.int hi) (putF "low" (.int lo) [])
theorem spf_low (lo hi : Int) : (spf lo hi).lookup ("low" : Str) = some (.int lo) := by
  unfold spf
  rw [lookup_putF, if_neg low_high, lookup_putF, if_pos rfl]
theorem spf_high (lo hi : Int) : (spf lo hi).lookup ("high" : Str) = some (.int hi) := by
  unfold spf
  rw [lookup_putF, if_pos rfl]
theorem spf_no (lo hi : Int) {m : Str} (h1 : ¬ m = "high") (h2 : ¬ m = "low") : (spf lo hi).lookup m = none := by
  unfold spf
  rw [lookup_putF, if_neg h1, lookup_putF, if_neg h2]
  rfl
def SpanAt (T : Env K mg) (H : Hp) (a : Addr) (lo hi : Int) : Prop := ∃ dx, H a = some (.ins T.a_Span dx (spf lo hi))
theorem SpanAt.same {T : Env K mg} {H H' : Hp} {a : Addr} {lo hi : Int} (h : SpanAt T H a lo hi) (s : Same H H') : SpanAt T H' a lo hi := by
  obtain ⟨dx, h⟩ := h
  exact ⟨dx, s _ _ h⟩
def sp_Span_init (T : Env K mg) : Sp := fun vs H Q E => ∃ (p dx : Addr) (lo hi : Int), vs = [.ref p, .int lo, .int hi] ∧ H p = some (.ins T.a_Span dx []) ∧
  (lo ≤ hi → ∀ H', SpanAt T H' p lo hi → (∀ b o, H b = some o → b ≠ p → H' b = some o) → Q .non H') ∧ (hi < lo → E (.ref T.c_BadArgument) none H)
theorem ok_Span_init (T : Env K mg) : FnOk P w K mg base (L2.CX P w) 1 T.a_Span_init T.d_Span_init ["self", "low", "high"] (sp_Span_init T) := by
  refine T.F_Span_init.okX sc_Span_init (fun vs H Q E h => by obtain ⟨_, _, _, _, rfl, _⟩ := h; rfl) (fun cdv A outer s H vs Q E hr h => ?_)
  obtain ⟨p, dx, lo, hi, rfl, hp, h1, h2⟩ := h
  refine ⟨_, (pss_cons (ps_if (pt_cmpR op_gt (pv 1) (pv 2) (nomark _)) (pss_one (ps_raise rfl (takes_of rfl rfl rfl rfl) (pmk_own PySem.F.excBase_ValueError T.e_BadArgument.xP T.e_BadArgument.gC T.e_BadArgument.kC (raises_own T.e_BadArgument.bP T.e_BadArgument.tP) (by exact rfl)))) pss_nil)
      (pss_cons (ps_fld (pv 0) (pv 1) rfl)
      (pss_one (ps_fld (pv 0) (pv 2) rfl)))), ?_⟩
  refine ⟨_, rfl, _, rfl, _, _, rfl, rfl, _, rfl, iteD (fun c => h2 c) (fun c => ?_)⟩
  refine ⟨_, rfl, _, rfl, p, T.a_Span, dx, [], rfl, hp, T.k_Span.cl, T.n_Span_low, (by show 0 < 1000; decide), ?_⟩
  refine ⟨_, rfl, _, rfl, p, T.a_Span, dx, _, rfl, upd_same, T.k_Span.cl, T.n_Span_high, (by show 1 < 1000; decide), ?_⟩
  exact h1 (by omega) _ ⟨dx, upd_same⟩ fun b o e hb => by rw [upd_ne hb, upd_ne hb]; exact e
/-- a span has been made -/
theorem span_made {T : Env K mg} {H H' : Hp} {x dx : Addr} {lo hi : Int} (nx : H x = none) (nd : H dx = none) (k : ∀ b o, (upd (upd H dx (.own x)) x (.ins T.a_Span dx [])) b = some o → b ≠ x → H' b = some o) : Same H H' := Same.made nx nd k
def sp_Span_contains (T : Env K mg) : Sp := fun vs H Q E => ∃ (a : Addr) (t lo hi : Int), vs = [.ref a, .int t] ∧ SpanAt T H a lo hi ∧ Q (.bl (decide (lo ≤ t) && decide (t ≤ hi))) H
theorem ok_Span_contains (T : Env K mg) : FnOk P w K mg base (L2.CX P w) 1 T.a_Span_contains T.d_Span_contains ["self", "time"] (sp_Span_contains T) := by
  refine T.F_Span_contains.okX sc_Span_contains (fun vs H Q E h => by obtain ⟨_, _, _, _, rfl, _⟩ := h; rfl) (fun cdv A outer s H vs Q E hr h => ?_)
  obtain ⟨a, t, lo, hi, rfl, ⟨dx, ha⟩, h1⟩ := h
  refine ⟨_, (pss_one (ps_ret (pe_chain op_le op_le (pe_fld (pv 0) rfl) (pv 1) (pe_fld (pv 0) rfl)))), ?_⟩
  refine ⟨_, rfl, a, _, _, _, _, rfl, ha, T.k_Span.cl, T.n_Span_low, spf_low _ _, _, rfl, _, _, rfl, rfl, _, rfl, iteD (fun c => ?_) (fun c => ?_)⟩
  · refine ⟨_, rfl, a, _, _, _, _, rfl, ha, T.k_Span.cl, T.n_Span_high, spf_high _ _, _, _, rfl, rfl, ?_⟩
    rw [decide_eq_true c, Bool.true_and] at h1
    exact h1
  · rw [decide_eq_false c, Bool.false_and] at h1
    exact h1
def sp_Span_is_past (T : Env K mg) : Sp := fun vs H Q E => ∃ (a : Addr) (t lo hi : Int), vs = [.ref a, .int t] ∧ SpanAt T H a lo hi ∧ Q (.bl (decide (t < lo))) H
theorem ok_Span_is_past (T : Env K mg) : FnOk P w K mg base (L2.CX P w) 1 T.a_Span_is_past T.d_Span_is_past ["self", "time"] (sp_Span_is_past T) := by
  refine T.F_Span_is_past.okX sc_Span_is_past (fun vs H Q E h => by obtain ⟨_, _, _, _, rfl, _⟩ := h; rfl) (fun cdv A outer s H vs Q E hr h => ?_)
  obtain ⟨a, t, lo, hi, rfl, ⟨dx, ha⟩, h1⟩ := h
  refine ⟨_, (pss_one (ps_ret (pe_cmpR op_lt (pv 1) (pe_fld (pv 0) rfl) (nomark _)))), ?_⟩
  exact ⟨_, rfl, _, rfl, a, _, _, _, _, rfl, ha, T.k_Span.cl, T.n_Span_low, spf_low _ _, _, _, rfl, rfl, h1⟩
def sp_Span_is_ahead (T : Env K mg) : Sp := fun vs H Q E => ∃ (a : Addr) (t lo hi : Int), vs = [.ref a, .int t] ∧ SpanAt T H a lo hi ∧ Q (.bl (decide (hi < t))) H

--PART /work/steering/wip/parts/spans2.lean
theorem ok_Span_is_ahead (T : Env K mg) : FnOk P w K mg base (L2.CX P w) 1 T.a_Span_is_ahead T.d_Span_is_ahead ["self", "time"] (sp_Span_is_ahead T) := by
  refine T.F_Span_is_ahead.okX sc_Span_is_ahead (fun vs H Q E h => by obtain ⟨_, _, _, _, rfl, _⟩ := h; rfl) (fun cdv A outer s H vs Q E hr h => ?_)
  obtain ⟨a, t, lo, hi, rfl, ⟨dx, ha⟩, h1⟩ := h
  refine ⟨_, (pss_one (ps_ret (pe_cmpR op_gt (pv 1) (pe_fld (pv 0) rfl) (nomark _)))), ?_⟩
  exact ⟨_, rfl, _, rfl, a, _, _, _, _, rfl, ha, T.k_Span.cl, T.n_Span_high, spf_high _ _, _, _, rfl, rfl, h1⟩
def sp_Span_is_before (T : Env K mg) : Sp := fun vs H Q E => ∃ (a b : Addr) (lo hi lo2 hi2 : Int), vs = [.ref a, .ref b] ∧ SpanAt T H a lo hi ∧ SpanAt T H b lo2 hi2 ∧ Q (.bl (decide (hi < lo2))) H
theorem ok_Span_is_before (T : Env K mg) : FnOk P w K mg base (L2.CX P w) 1 T.a_Span_is_before T.d_Span_is_before ["self", "other"] (sp_Span_is_before T) := by
  refine T.F_Span_is_before.okX sc_Span_is_before (fun vs H Q E h => by obtain ⟨_, _, _, _, _, _, rfl, _⟩ := h; rfl) (fun cdv A outer s H vs Q E hr h => ?_)
  obtain ⟨a, b, lo, hi, lo2, hi2, rfl, ⟨dx, ha⟩, ⟨dx2, hb⟩, h1⟩ := h
  refine ⟨_, (pss_one (ps_ret (pe_cmpR op_lt (pe_fld (pv 0) rfl) (pe_fld (pv 1) rfl) (nomark _)))), ?_⟩
  exact ⟨_, rfl, a, _, _, _, _, rfl, ha, T.k_Span.cl, T.n_Span_high, spf_high _ _, _, rfl, b, _, _, _, _, rfl, hb, T.k_Span.cl, T.n_Span_low, spf_low _ _, _, _, rfl, rfl, h1⟩

--PART /work/steering/wip/parts/cspan.lean
/-- a list of spans -/
structure Spans (T : Env K mg) (H : Hp) (p : Addr) (as : List Addr) (es : List (Int × Int)) : Prop where
  at_ : H p = some (.lst (as.map V.ref))
  len : as.length = es.length
  each : ∀ (j : Nat) (a : Addr), as[j]? = some a → ∃ e, es[j]? = some e ∧ SpanAt T H a e.1 e.2
theorem Spans.same {T : Env K mg} {H H' : Hp} {p : Addr} {as : List Addr} {es : List (Int × Int)} (h : Spans T H p as es) (s : Same H H') : Spans T H' p as es :=
  ⟨s _ _ h.at_, h.len, fun j a hj => by
    obtain ⟨e, h2, h3⟩ := h.each j a hj
    exact ⟨e, h2, h3.same s⟩⟩
theorem mem_ref {as : List Addr} {i : Nat} {x : V} (hx : (as.map V.ref)[i]? = some x) : ∃ a, as[i]? = some a ∧ x = V.ref a := by
  rw [List.getElem?_map] at hx
  cases e : as[i]? with
  | none => rw [e] at hx; cases hx
  | some u => rw [e] at hx; exact ⟨u, rfl, (Option.some.inj hx).symm⟩
def IsMax (m : Int) (ns : List Int) : Prop := m ∈ ns ∧ ∀ y ∈ ns, y ≤ m
def IsMin (m : Int) (ns : List Int) : Prop := m ∈ ns ∧ ∀ y ∈ ns, m ≤ y
theorem IsMax.eq {m k : Int} {ns : List Int} (a : IsMax m ns) (b : IsMax k ns) : m = k := Int.le_antisymm (b.2 m a.1) (a.2 k b.1)
theorem IsMin.eq {m k : Int} {ns : List Int} (a : IsMin m ns) (b : IsMin k ns) : m = k := Int.le_antisymm (a.2 k b.1) (b.2 m a.1)
def sp_common_span (T : Env K mg) : Sp := fun vs H Q E => ∃ (p : Addr) (as : List Addr) (es : List (Int × Int)), vs = [.ref p] ∧ Spans T H p as es ∧ es.length ≤ 1000000 ∧ (es = [] → E (.ref T.c_BadArgument) none H) ∧
  (es ≠ [] → ∀ lo hi, IsMax lo (es.map (·.1)) → IsMin hi (es.map (·.2)) → (hi < lo → ∀ H', Same H H' → Q .non H') ∧ (lo ≤ hi → ∀ a H', Same H H' → SpanAt T H' a lo hi → Q (.ref a) H'))
theorem ok_common_span (T : Env K mg) : FnOk P w K mg base (L2.CX P w) 3 T.a_common_span T.d_common_span ["spans"] (sp_common_span T) := by
  refine T.F_common_span.okX sc_common_span (fun vs H Q E h => by obtain ⟨_, _, _, rfl, _⟩ := h; rfl) (fun cdv A outer s H vs Q E hr h => ?_)
  obtain ⟨p, as, es, rfl, hS, hlen, h1, h2⟩ := h
  have hu64 := hu64_of hr
  have G_Span_init := ok_Span_init (P := P) (w := w) (base := base) T
  refine ⟨_, (pss_cons (ps_if (pt_not (pt_truth (pv 0) (fun _ => rfl))) (pss_one (ps_raise rfl (takes_of rfl rfl rfl rfl) (pmk_own PySem.F.excBase_ValueError T.e_BadArgument.xP T.e_BadArgument.gC T.e_BadArgument.kC (raises_own T.e_BadArgument.bP T.e_BadArgument.tP) (by exact rfl)))) pss_nil)
      (pss_cons (ps_set (i := 1) sc_common_span.nd rfl (Or.inl rfl) (pe_callB (cr_max rfl) (by rfl) T.z_max (by decide +kernel) (pa_cons (pe_lc (own := [("span", 3)]) (by rfl) sc_common_span.nd (pi_list (pv 0)) (blkOk_by (own := [("span", 3)]) (N := ["spans", "low", "high", "span"]) (sc := defScope s_common_span) (by decide +kernel)) (fun _ _ _ _ _ => (pg_name (i := 3) sc_common_span.nd rfl (Or.inl rfl))) (fun _ _ _ _ _ => pts_nil) (fun _ _ _ _ _ => (pe_fldK (K := K) rfl (pv 3) rfl))) pa_nil)))
      (pss_cons (ps_set (i := 2) sc_common_span.nd rfl (Or.inl rfl) (pe_callB (cr_min rfl) (by rfl) T.z_min (by decide +kernel) (pa_cons (pe_lc (own := [("span", 3)]) (by rfl) sc_common_span.nd (pi_list (pv 0)) (blkOk_by (own := [("span", 3)]) (N := ["spans", "low", "high", "span"]) (sc := defScope s_common_span) (by decide +kernel)) (fun _ _ _ _ _ => (pg_name (i := 3) sc_common_span.nd rfl (Or.inl rfl))) (fun _ _ _ _ _ => pts_nil) (fun _ _ _ _ _ => (pe_fldK (K := K) rfl (pv 3) rfl))) pa_nil)))
      (pss_cons (ps_if (pt_cmpR op_gt (pv 1) (pv 2) (nomark _)) (pss_one (ps_ret pe_non)) pss_nil)
      (pss_one (ps_ret (pe_make T.M_Span G_Span_init (hr.mono (by decide)) rfl T.k_Span.mgC T.b_Span_init .nil passL (pa_cons (pv 1) (pa_cons (pv 2) pa_nil))))))))), ?_⟩
  refine ⟨_, rfl, _, .inl ⟨_, SqL.of hS.at_, rfl⟩, ?_⟩
  cases es with
  | nil =>
    have : as = [] := List.eq_nil_of_length_eq_zero hS.len
    subst this
    exact ifT rfl (h1 rfl)
  | cons e0 er =>
    have hne : as ≠ [] := fun q => by
      have := hS.len
      rw [q] at this
      simp at this
    have hal := hS.len
    generalize e0 :: er = es at *
    have hne2 : es ≠ [] := fun q => by
      rw [q] at hal
      exact hne (List.eq_nil_of_length_eq_zero hal)
    refine ifF (by cases as with | nil => exact absurd rfl hne | cons _ _ => rfl) ?_
    -- max([span.low for span in spans])
    refine ⟨_, rfl, p, rfl, ⟨_, SqL.of hS.at_⟩, fun D hD => lc_list (K := K) (a := p) (xs := as.map V.ref) (fun i H' => Same H H' ∧ Li H' D ((es.map (·.1)).take i)) ⟨same_new hD, upd_same⟩ (fun i H' _ h => SqL.of (h.1 _ _ hS.at_)) ?_ ?_⟩
    · rintro i x H' hx ⟨sA, hl⟩
      obtain ⟨c, hc, rfl⟩ := mem_ref hx
      obtain ⟨e, he, dx, hcx⟩ := (hS.same sA).each i c hc
      have hi : i < es.length := (List.getElem?_eq_some_iff.mp he).1
      refine ⟨rfl, yes_if ?_⟩
      refine ⟨_, rfl, c, _, _, _, _, rfl, hcx, T.k_Span.cl, T.n_Span_low, spf_low _ _, _, hl, szl (by rw [List.length_map, List.length_take, List.length_map]; omega), same_mut sA hD, ?_⟩
      rw [take_succ (show (es.map (·.1))[i]? = some e.1 by rw [List.getElem?_map, he]; rfl)]
      exact li_push
    rintro H1 ⟨s1, hl1⟩
    rw [List.length_map, hal, show (es.map (·.1)).take es.length = es.map (·.1) from List.take_of_length_le (by rw [List.length_map]; exact Nat.le_refl _)] at hl1
    refine ⟨D, _, rfl, SqL.of hl1, by rw [List.length_map]; exact List.length_pos_iff.mpr hne2, fun lo hlo1 hlo2 => ?_⟩
    have hS1 := hS.same s1
    -- min([span.high for span in spans])
    refine ⟨_, rfl, p, rfl, ⟨_, SqL.of hS1.at_⟩, fun D2 hD2 => lc_list (K := K) (a := p) (xs := as.map V.ref) (fun i H' => Same H1 H' ∧ Li H' D2 ((es.map (·.2)).take i)) ⟨same_new hD2, upd_same⟩ (fun i H' _ h => SqL.of (h.1 _ _ hS1.at_)) ?_ ?_⟩
    · rintro i x H' hx ⟨sA, hl⟩
      obtain ⟨c, hc, rfl⟩ := mem_ref hx
      obtain ⟨e, he, dx, hcx⟩ := (hS1.same sA).each i c hc
      have hi : i < es.length := (List.getElem?_eq_some_iff.mp he).1
      refine ⟨rfl, yes_if ?_⟩
      refine ⟨_, rfl, c, _, _, _, _, rfl, hcx, T.k_Span.cl, T.n_Span_high, spf_high _ _, _, hl, szl (by rw [List.length_map, List.length_take, List.length_map]; omega), same_mut sA hD2, ?_⟩
      rw [take_succ (show (es.map (·.2))[i]? = some e.2 by rw [List.getElem?_map, he]; rfl)]
      exact li_push
    rintro H2 ⟨s2, hl2⟩
    rw [List.length_map, hal, show (es.map (·.2)).take es.length = es.map (·.2) from List.take_of_length_le (by rw [List.length_map]; exact Nat.le_refl _)] at hl2
    refine ⟨D2, _, rfl, SqL.of hl2, by rw [List.length_map]; exact List.length_pos_iff.mpr hne2, fun hi hhi1 hhi2 => ?_⟩
    obtain ⟨g1, g2⟩ := h2 hne2 lo hi ⟨hlo1, hlo2⟩ ⟨hhi1, hhi2⟩
    have s12 := s1.trans s2
    refine ⟨_, rfl, _, rfl, _, _, rfl, rfl, _, rfl, iteD (fun c => g1 c _ s12) (fun c => ?_)⟩
    refine ⟨_, rfl, _, rfl, fun x dx nx ndx nex => ⟨x, dx, lo, hi, rfl, upd_same, fun hle H3 hx k => ⟨rfl, g2 hle x H3 (s12.trans (Same.made nx ndx k)) hx⟩, fun c2 => absurd c2 (by omega)⟩⟩

--PART /work/steering/wip/parts/k06.lean
def sp__law_same (T : Env K mg) : Sp := fun vs H Q E => ∃ b : Bool, vs = [.bl b, .bl b] ∧ Q (.bl true) H
theorem ok__law_same (T : Env K mg) : FnOk P w K mg base (L2.CX P w) 1 T.a__law_same T.d__law_same ["actual", "due"] (sp__law_same T) := by
  refine T.F__law_same.okX sc__law_same (fun vs H Q E h => by obtain ⟨_, rfl, _⟩ := h; rfl) (fun cdv A outer s H vs Q E hr h => ?_)
  obtain ⟨b, rfl, h1⟩ := h
  refine ⟨_, (pss_one (ps_ret (pe_and (pe_callB call_isi (by rfl) T.z_isinstance (by decide +kernel) (pa_cons (pv 0) (pa_cons (pe_bltn (v := .ty "bool") (by rfl) T.z_bool (by decide +kernel) rfl) pa_nil))) (pe_one (pe_cmpR op_eq (pv 0) (pv 1) (nomark _)))))), ?_⟩
  refine ⟨_, rfl, _, _, _, _, _, rfl, .ty _, .base (.bl _), kit_ty (b := "bool") (r := true) (by decide +kernel), _, rfl, iteT ?_⟩
  refine ⟨_, rfl, _, rfl, by cases b <;> rfl, ?_⟩
  rw [decide_eq_true rfl]
  exact h1
def sp__law_refused (T : Env K mg) : Sp := fun vs H Q E => ∃ lo hi : Int, vs = [.int lo, .int hi] ∧ hi < lo ∧ ∀ H', Same H H' → Q (.bl true) H'
theorem ok__law_refused (T : Env K mg) : FnOk P w K mg base (L2.CX P w) 4 T.a__law_refused T.d__law_refused ["low", "high"] (sp__law_refused T) := by
  refine T.F__law_refused.okX sc__law_refused (fun vs H Q E h => by obtain ⟨_, _, rfl, _⟩ := h; rfl) (fun cdv A outer s H vs Q E hr h => ?_)
  obtain ⟨lo, hi, rfl, hlt, h1⟩ := h
  have hu64 := hu64_of hr
  have G_Span_init := ok_Span_init (P := P) (w := w) (base := base) T
  refine ⟨_, (pss_cons (ps_try_only rfl rfl ⟨rfl, by decide, .inl T.e_BadArgument.gC⟩ takes0 (fun W pn xe tk po => (pss_one (ps_expr (pe_kS T.M_Span G_Span_init (hr.mono (by decide)) rfl T.k_Span.mgC T.b_Span_init .nil (fun σ => passAt tk σ) (pa_cons (pv 0) (pa_cons (pv 1) pa_nil)))))) (fun a oe cls d pn hz hf => (pss_one (ps_ret pe_bl))))
      (pss_one (ps_ret pe_bl))), ?_⟩
  refine ⟨_, rfl, _, rfl, fun x dx nx ndx nex => ⟨x, dx, lo, hi, rfl, upd_same, fun c => absurd c (by omega), fun _ => ⟨true, T.u_BadArgument_BadArgument, fun _ y _ => h1 _ ?_, fun q => Bool.noConfusion q⟩⟩⟩
  intro b o e
  rw [upd_ne (ne_of_none e nx), upd_ne (ne_of_none e ndx)]
  exact e
def sp__law_none (T : Env K mg) : Sp := fun vs H Q E => vs = [] ∧ ∀ H', Same H H' → Q (.bl true) H'
theorem ok__law_none (T : Env K mg) : FnOk P w K mg base (L2.CX P w) 4 T.a__law_none T.d__law_none [] (sp__law_none T) := by
  refine T.F__law_none.okX sc__law_none (fun vs H Q E h => by obtain ⟨rfl, _⟩ := h; rfl) (fun cdv A outer s H vs Q E hr h => ?_)
  obtain ⟨rfl, h1⟩ := h
  have hu64 := hu64_of hr
  have G_common_span := ok_common_span (P := P) (w := w) (base := base) T
  refine ⟨_, (pss_cons (ps_try_only rfl rfl ⟨rfl, by decide, .inl T.e_BadArgument.gC⟩ takes0 (fun W pn xe tk po => (pss_one (ps_expr (pe_callS G_common_span (hr.mono (by decide)) rfl T.g_common_span T.F_common_span.kp T.b_common_span (fun σ => passAt tk σ) (pa_cons (pe_lst pa_nil) pa_nil))))) (fun a oe cls d pn hz hf => (pss_one (ps_ret pe_bl))))
      (pss_one (ps_ret pe_bl))), ?_⟩
  refine ⟨Nat.zero_le _, fun p np => ⟨p, [], [], rfl, ⟨upd_same, rfl, fun j a hj => by simp at hj⟩, by decide, fun _ => ⟨true, T.u_BadArgument_BadArgument, fun _ y _ => h1 _ (same_new np), fun q => Bool.noConfusion q⟩, fun c => absurd rfl c⟩⟩
def lawEnds (c o : Int) : Int × Int := (lawNum c - lawNum (o / 5), lawNum c - lawNum (o / 5) + ([0, 1, lawNum o, c % 30] : List Int).getD (o % 4).toNat 0)
theorem lawEnds_le {c o : Int} (hc : 0 ≤ c) (ho : 0 ≤ o) : (lawEnds c o).1 ≤ (lawEnds c o).2 := by
  unfold lawEnds
  have h1 := (lawNum_lt ho).1
  obtain ⟨j, hj, e⟩ : ∃ j : Nat, j < 4 ∧ (o % 4).toNat = j := ⟨_, by omega, rfl⟩
  rw [e]
  match j, hj with
  | 0, _ => simp
  | 1, _ => simp; omega
  | 2, _ => simp; omega
  | 3, _ => simp; omega
def sp__law_ends (T : Env K mg) : Sp := fun vs H Q E => ∃ c o : Int, vs = [.int c, .int o] ∧ 0 ≤ c ∧ 0 ≤ o ∧ ∀ p H', Same H H' → H p = none → H' p = some (.tup [.int (lawEnds c o).1, .int (lawEnds c o).2]) → Q (.ref p) H'
theorem ok__law_ends (T : Env K mg) : FnOk P w K mg base (L2.CX P w) 2 T.a__law_ends T.d__law_ends ["cell", "other"] (sp__law_ends T) := by
  refine T.F__law_ends.okX sc__law_ends (fun vs H Q E h => by obtain ⟨_, _, rfl, _⟩ := h; rfl) (fun cdv A outer s H vs Q E hr h => ?_)
  obtain ⟨c, o, rfl, hc, ho, h1⟩ := h
  have hu64 := hu64_of hr
  have G__law_number := ok__law_number (P := P) (w := w) (base := base) T
  refine ⟨_, (pss_cons (ps_set (i := 2) sc__law_ends.nd rfl (Or.inl rfl) (pe_op op_sub (pe_call G__law_number (hr.mono (by decide)) rfl T.g__law_number T.F__law_number.kp T.b__law_number .nil passL (pa_cons (pv 0) pa_nil)) (pe_call G__law_number (hr.mono (by decide)) rfl T.g__law_number T.F__law_number.kp T.b__law_number .nil passL (pa_cons (pe_op op_fdiv (pv 1) pe_int) pa_nil))))
      (pss_one (ps_ret (pe_tup (pa_cons (pv 2) (pa_cons (pe_op op_add (pv 2) (pe_ix ix_list (pe_lst (pa_cons pe_int (pa_cons pe_int (pa_cons (pe_call G__law_number (hr.mono (by decide)) rfl T.g__law_number T.F__law_number.kp T.b__law_number .nil passL (pa_cons (pv 1) pa_nil)) (pa_cons (pe_op op_mod (pe_callTy call_int1 (by rfl) T.z_int (by decide +kernel) (pa_cons (pv 0) pa_nil)) pe_int) pa_nil))))) (pe_op op_mod (pe_callTy call_int1 (by rfl) T.z_int (by decide +kernel) (pa_cons (pv 1) pa_nil)) pe_int) (fun _ _ => rfl))) pa_nil)))))), ?_⟩
  refine ⟨_, rfl, c, rfl, hc, fun H1 s1 => ⟨_, rfl, _, _, rfl, rfl, ⟨by decide, by decide⟩, o / 5, rfl, by omega, fun H2 s2 => ⟨_, _, rfl, rfl, ?_⟩⟩⟩
  refine ⟨_, rfl, _, rfl, _, rfl, o, rfl, ho, fun H3 s3 => ⟨_, rfl, .inl ⟨_, rfl, _, _, rfl, rfl, by show (0 : Int) < _; decide, (by show 4 ≤ sizeLine; decide), fun p np => ?_⟩⟩⟩
  refine ⟨_, rfl, .inl ⟨_, rfl, _, _, rfl, rfl, by show (0 : Int) < _; decide, p, _, _, .int (([0, 1, lawNum o, c % 30] : List Int).getD (o % 4).toNat 0), rfl, rfl, SqL.of upd_same, at_of (j := (o % 4).toNat) (by omega) ?_, _, _, rfl, rfl, (by show 2 ≤ sizeLine; decide), fun q nq => ?_⟩⟩
  · obtain ⟨j, hj, e⟩ : ∃ j : Nat, j < 4 ∧ (o % 4).toNat = j := ⟨_, by omega, rfl⟩
    rw [e]
    match j, hj with
    | 0, _ | 1, _ | 2, _ | 3, _ => simp
  · exact h1 q _ ((((s1.trans s2).trans s3).trans (same_new np)).trans (same_new nq)) ((((s1.trans s2).trans s3).trans (same_new np)).free nq) upd_same
def sp__law_answers (T : Env K mg) : Sp := fun vs H Q E => ∃ (a : Addr) (lo hi t : Int), vs = [.ref a, .int lo, .int hi, .int t] ∧ SpanAt T H a lo hi ∧ Q (.bl true) H
theorem ok__law_answers (T : Env K mg) : FnOk P w K mg base (L2.CX P w) 3 T.a__law_answers T.d__law_answers ["span", "low", "high", "time"] (sp__law_answers T) := by
  refine T.F__law_answers.okX sc__law_answers (fun vs H Q E h => by obtain ⟨_, _, _, _, rfl, _⟩ := h; rfl) (fun cdv A outer s H vs Q E hr h => ?_)
  obtain ⟨a, lo, hi, t, rfl, hS, h1⟩ := h
  have hu64 := hu64_of hr
  have G_Span_contains := ok_Span_contains (P := P) (w := w) (base := base) T
  have G__law_same := ok__law_same (P := P) (w := w) (base := base) T
  have G__law_is_int := ok__law_is_int (P := P) (w := w) (base := base) T
  have G_Span_is_past := ok_Span_is_past (P := P) (w := w) (base := base) T
  have G_Span_is_ahead := ok_Span_is_ahead (P := P) (w := w) (base := base) T
  refine ⟨_, (pss_cons (ps_if (PW.pt (pw_or (pt_cmpR op_ne (pe_fld (pv 0) rfl) (pv 1) (nomark _)) (pw_or (pt_cmpR op_ne (pe_fld (pv 0) rfl) (pv 2) (nomark _)) (pw_or (pt_not (pt_val (pe_call G__law_is_int (hr.mono (by decide)) rfl T.g__law_is_int T.F__law_is_int.kp T.b__law_is_int .nil passL (pa_cons (pe_fld (pv 0) rfl) pa_nil)))) (pw_or1 (pt_not (pt_val (pe_call G__law_is_int (hr.mono (by decide)) rfl T.g__law_is_int T.F__law_is_int.kp T.b__law_is_int .nil passL (pa_cons (pe_fld (pv 0) rfl) pa_nil))))))))) (pss_one (ps_ret pe_bl)) pss_nil)
      (pss_cons (ps_if (pt_cmpR op_ne (pe_cmpR (op_inOwn T.k_Span.cl T.m_Span_contains G_Span_contains (hr.mono (by decide)) T.b_Span_contains passL) (pv 3) (pv 0) rfl) (pe_chain op_le op_le (pv 1) (pv 3) (pv 2)) (nomark _)) (pss_one (ps_ret pe_bl)) pss_nil)
      (pss_one (ps_ret (pe_and (pe_call G__law_same (hr.mono (by decide)) rfl T.g__law_same T.F__law_same.kp T.b__law_same .nil passL (pa_cons (pe_meth (pv 0) T.k_Span.cl T.m_Span_is_past G_Span_is_past (hr.mono (by decide)) T.b_Span_is_past .nil passL (pa_cons (pv 3) pa_nil)) (pa_cons (pe_cmpR op_lt (pv 3) (pv 1) (nomark _)) pa_nil))) (pe_one (pe_call G__law_same (hr.mono (by decide)) rfl T.g__law_same T.F__law_same.kp T.b__law_same .nil passL (pa_cons (pe_meth (pv 0) T.k_Span.cl T.m_Span_is_ahead G_Span_is_ahead (hr.mono (by decide)) T.b_Span_is_ahead .nil passL (pa_cons (pv 3) pa_nil)) (pa_cons (pe_cmpR op_gt (pv 3) (pv 2) (nomark _)) pa_nil))))))))), ?_⟩
  obtain ⟨dx, ha⟩ := id hS
  refine ⟨_, rfl, a, _, _, _, _, rfl, ha, T.k_Span.cl, T.n_Span_low, spf_low _ _, _, rfl, rfl, _, rfl, ifF (by simp) ?_⟩
  refine ⟨_, rfl, a, _, _, _, _, rfl, ha, T.k_Span.cl, T.n_Span_high, spf_high _ _, _, rfl, rfl, _, rfl, ifF (by simp) ?_⟩
  refine ⟨_, rfl, a, _, _, _, _, rfl, ha, T.k_Span.cl, T.n_Span_low, spf_low _ _, _, rfl, _, rfl, ifF rfl ?_⟩
  refine ⟨_, rfl, a, _, _, _, _, rfl, ha, T.k_Span.cl, T.n_Span_high, spf_high _ _, _, rfl, _, rfl, ifF rfl ?_⟩
  refine ⟨_, rfl, _, rfl, a, _, _, rfl, ha, a, t, lo, hi, rfl, hS, _, rfl, ?_⟩
  have tail : (decide (lo ≤ t) && decide (t ≤ hi)) = (decide (lo ≤ t) && decide (t ≤ hi)) := rfl
  refine ⟨_, rfl, _, rfl, _, _, rfl, rfl, _, rfl, ?_⟩
  suffices rest : _ by
    refine iteD (fun c => ?_) (fun c => ?_)
    · refine ⟨_, rfl, _, _, rfl, rfl, rfl, _, rfl, ?_⟩
      refine ifF ?_ rest
      rw [decide_eq_true c]
      simp
    · refine ⟨rfl, _, rfl, ?_⟩
      refine ifF ?_ rest
      rw [decide_eq_false c]
      simp
  refine ⟨_, rfl, a, _, _, rfl, ha, spf_no _ _ (by decide +kernel) (by decide +kernel), _, rfl, a, t, lo, hi, rfl, hS, _, rfl, _, rfl, _, _, rfl, rfl, _, rfl, _, rfl, iteT ?_⟩
  exact ⟨_, rfl, a, _, _, rfl, ha, spf_no _ _ (by decide +kernel) (by decide +kernel), _, rfl, a, t, lo, hi, rfl, hS, _, rfl, _, rfl, _, _, rfl, rfl, _, rfl, h1⟩

--PART /work/steering/wip/parts/k06b.lean
def spLaw (K : PySem.W.Frag) : Sp := fun vs H Q _ => ∃ (a : Addr) (ns : List Int), vs = [.ref a] ∧ SqL K H a (ns.map V.int) ∧ ns.length ≤ 63 ∧ ∀ H', Q (.bl true) H'
def sp_law (T : Env K mg) : Sp := spLaw K
/-- a list of pairs -/
structure Ends2 (H : Hp) (p : Addr) (as : List Addr) (es : List (Int × Int)) : Prop where
  at_ : H p = some (.lst (as.map V.ref))
  len : as.length = es.length
  each : ∀ (j : Nat) (a : Addr), as[j]? = some a → ∃ e, es[j]? = some e ∧ H a = some (.tup [.int e.1, .int e.2])
theorem Ends2.same {H H' : Hp} {p : Addr} {as : List Addr} {es : List (Int × Int)} (h : Ends2 H p as es) (s : Same H H') : Ends2 H' p as es :=
  ⟨s _ _ h.at_, h.len, fun j a hj => by
    obtain ⟨e, h2, h3⟩ := h.each j a hj
    exact ⟨e, h2, s _ _ h3⟩⟩
theorem Ends2.get {H : Hp} {p : Addr} {as : List Addr} {es : List (Int × Int)} (h : Ends2 H p as es) {j : Nat} {e : Int × Int} (hj : es[j]? = some e) : ∃ a, as[j]? = some a ∧ H a = some (.tup [.int e.1, .int e.2]) := by
  have hl : j < as.length := by rw [h.len]; exact (List.getElem?_eq_some_iff.mp hj).1
  obtain ⟨e', h2, h3⟩ := h.each j _ (List.getElem?_eq_getElem hl)
  rw [hj] at h2
  cases h2
  exact ⟨_, List.getElem?_eq_getElem hl, h3⟩
theorem Spans.get {T : Env K mg} {H : Hp} {p : Addr} {as : List Addr} {es : List (Int × Int)} (h : Spans T H p as es) {j : Nat} {e : Int × Int} (hj : es[j]? = some e) : ∃ a, as[j]? = some a ∧ SpanAt T H a e.1 e.2 := by
  have hl : j < as.length := by rw [h.len]; exact (List.getElem?_eq_some_iff.mp hj).1
  obtain ⟨e', h2, h3⟩ := h.each j _ (List.getElem?_eq_getElem hl)
  rw [hj] at h2
  cases h2
  exact ⟨_, List.getElem?_eq_getElem hl, h3⟩
theorem at_ref {as : List Addr} {i : Nat} {z : Int} {a : Addr} (e : z = (i : Int)) (h : as[i]? = some a) : atI (as.map V.ref) z = some (.ref a) := at_of e (by rw [List.getElem?_map, h]; rfl)
def endsOf (ns : List Int) (k : Nat) : List (Int × Int) := (List.range k).map fun (i : Nat) => lawEnds (cell ns (2 * (0 + (i : Int)))) (cell ns (2 * (0 + (i : Int)) + 1))
theorem endsOf_len (ns : List Int) (k : Nat) : (endsOf ns k).length = k := by simp [endsOf]
theorem endsOf_succ (ns : List Int) (k : Nat) : endsOf ns (k + 1) = endsOf ns k ++ [lawEnds (cell ns (2 * (0 + (k : Int)))) (cell ns (2 * (0 + (k : Int)) + 1))] := by simp [endsOf, List.range_succ]
theorem endsOf_le {ns : List Int} {k : Nat} : ∀ e ∈ endsOf ns k, e.1 ≤ e.2 := by
  intro e h
  obtain ⟨i, _, rfl⟩ := List.mem_map.mp h
  exact lawEnds_le (cell_nn _ _) (cell_nn _ _)
theorem push_ref {H H' : Hp} {p a : Addr} {as : List Addr} {es : List (Int × Int)} {e : Int × Int} {R : Hp → Addr → Int × Int → Prop} (mono : ∀ H H' a e, (∀ b o, H b = some o → b ≠ p → H' b = some o) → a ≠ p → R H a e → R H' a e)
    (hl : as.length = es.length) (he : ∀ (j : Nat) (c : Addr), as[j]? = some c → c ≠ p ∧ ∃ e, es[j]? = some e ∧ R H c e) (ha : R H a e) (hne : a ≠ p) (hk : ∀ b o, H b = some o → b ≠ p → H' b = some o) :
    (as ++ [a]).length = (es ++ [e]).length ∧ ∀ (j : Nat) (c : Addr), (as ++ [a])[j]? = some c → c ≠ p ∧ ∃ e', (es ++ [e])[j]? = some e' ∧ R H' c e' := by
  refine ⟨by rw [List.length_append, List.length_append, hl]; rfl, fun j c hj => ?_⟩
  by_cases k : j < as.length
  · rw [List.getElem?_append_left k] at hj
    obtain ⟨h1, e', h2, h3⟩ := he j c hj
    exact ⟨h1, e', by rw [List.getElem?_append_left (by rw [← hl]; exact k)]; exact h2, mono _ _ _ _ hk h1 h3⟩
  · have hj2 : j = as.length := by
      have := (List.getElem?_eq_some_iff.mp hj).1
      simp at this
      omega
    subst hj2
    rw [List.getElem?_append_right (Nat.le_refl _), Nat.sub_self] at hj
    have ec : a = c := Option.some.inj hj
    subst ec
    exact ⟨hne, e, by rw [hl, List.getElem?_append_right (Nat.le_refl _), Nat.sub_self]; rfl, mono _ _ _ _ hk hne ha⟩
theorem upd_keep {H : Hp} {p : Addr} {o : HO} : ∀ b u, H b = some u → b ≠ p → upd H p o b = some u := fun b u e hb => by rw [upd_ne hb]; exact e
theorem ok_law (T : Env K mg) : FnOk P w K mg base CX0 5 T.a_law T.d_law ["script"] (sp_law T) := by
  refine T.F_law.ok sc_law (fun vs H Q E h => by obtain ⟨_, _, rfl, _⟩ := h; rfl) (fun cdv A outer s H vs Q E hr h => ?_)
  obtain ⟨a, ns, rfl, hS, hlen, h1⟩ := h
  have hu64 := hu64_of hr
  have G_common_span := ok_common_span (P := P) (w := w) (base := base) T
  have G__law_none := ok__law_none (P := P) (w := w) (base := base) T
  have G__law_ends := ok__law_ends (P := P) (w := w) (base := base) T
  have G_Span_init := ok_Span_init (P := P) (w := w) (base := base) T
  have G__law_answers := ok__law_answers (P := P) (w := w) (base := base) T
  have G__law_cell := ok__law_cell (P := P) (w := w) (base := base) T
  have G__law_number := ok__law_number (P := P) (w := w) (base := base) T
  have G__law_same := ok__law_same (P := P) (w := w) (base := base) T
  have G__law_refused := ok__law_refused (P := P) (w := w) (base := base) T
  have G_Span_is_before := ok_Span_is_before (P := P) (w := w) (base := base) T
  refine ⟨_, (pss_cons (ps_if (pt_not (pt_val (pe_call0 G__law_none (hr.mono (by decide)) rfl T.g__law_none T.F__law_none.kp T.b__law_none .nil passL))) (pss_one (ps_ret pe_bl)) pss_nil)
      (pss_cons (ps_setLc (i := 1) (own := [("k", 3)]) (by rfl) sc_law.nd rfl rfl (sw_true rfl rfl rfl (by decide +kernel)) (pi_range1 rfl T.z_range (pa_cons (pe_op op_add pe_int (pe_op op_mod (pe_op op_fdiv (pe_callB call_len (by rfl) T.z_len (by decide +kernel) (pa_cons (pv 0) pa_nil)) pe_int) pe_int)) pa_nil)) (blkOk_by (own := [("k", 3)]) (N := ["script", "ends", "spans", "k", "low", "high", "time", "given", "actual", "pair"]) (sc := defScope s_law) (by decide +kernel)) (fun _ _ _ _ _ => (pg_name (i := 3) sc_law.nd rfl (Or.inl rfl))) (fun _ _ _ _ _ => pts_nil) (fun _ _ _ _ _ => (pe_call G__law_ends (hr.mono (by decide)) rfl T.g__law_ends T.F__law_ends.kp T.b__law_ends .nil passL (pa_cons (pe_call G__law_cell (hr.mono (by decide)) rfl T.g__law_cell T.F__law_cell.kp T.b__law_cell .nil passL (pa_cons (pv 0) (pa_cons (pe_op op_mul pe_int (pv 3)) pa_nil))) (pa_cons (pe_call G__law_cell (hr.mono (by decide)) rfl T.g__law_cell T.F__law_cell.kp T.b__law_cell .nil passL (pa_cons (pv 0) (pa_cons (pe_op op_add (pe_op op_mul pe_int (pv 3)) pe_int) pa_nil))) pa_nil)))))
      (pss_cons (ps_setLc (i := 2) (own := [("pair", 9)]) (by rfl) sc_law.nd rfl rfl (sw_true rfl rfl rfl (by decide +kernel)) (pi_list (pv 1)) (blkOk_by (own := [("pair", 9)]) (N := ["script", "ends", "spans", "k", "low", "high", "time", "given", "actual", "pair"]) (sc := defScope s_law) (by decide +kernel)) (fun _ _ _ _ _ => (pg_name (i := 9) sc_law.nd rfl (Or.inl rfl))) (fun _ _ _ _ _ => pts_nil) (fun _ _ _ _ _ => (pe_make T.M_Span G_Span_init (hr.mono (by decide)) rfl T.k_Span.mgC T.b_Span_init .nil passL (pa_cons (pe_ix (ixK (K := K) (r := rIxT) rfl ix_tup) (pv 9) pe_int (fun _ _ => rfl)) (pa_cons (pe_ix (ixK (K := K) (r := rIxT) rfl ix_tup) (pv 9) pe_int (fun _ _ => rfl)) pa_nil)))))
      (pss_cons (ps_for PassesOwn.never rfl (pi_range1 rfl T.z_range (pa_cons (pe_callB call_len (by rfl) T.z_len (by decide +kernel) (pa_cons (pv 1) pa_nil)) pa_nil)) (pg_name (i := 3) sc_law.nd rfl (Or.inl rfl)) (pss_cons (ps_set (i := 4) sc_law.nd rfl (Or.inl rfl) (pe_ix ix_tup (pe_ix ix_list (pv 1) (pv 3) (fun _ _ => rfl)) pe_int (fun _ _ => rfl)))
      (pss_cons (ps_set (i := 5) sc_law.nd rfl (Or.inl rfl) (pe_ix ix_tup (pe_ix ix_list (pv 1) (pv 3) (fun _ _ => rfl)) pe_int (fun _ _ => rfl)))
      (pss_cons (ps_for PassesOwn.never rfl (pi_list (pe_lst (pa_cons (pe_op op_sub (pv 4) pe_int) (pa_cons (pv 4) (pa_cons (pe_op op_add (pv 4) pe_int) (pa_cons (pe_op op_sub (pv 5) pe_int) (pa_cons (pv 5) (pa_cons (pe_op op_add (pv 5) pe_int) (pa_cons (pe_ix ix_tup (pe_ix ix_list (pv 1) pe_int (fun _ _ => rfl)) pe_int (fun _ _ => rfl)) (pa_cons (pe_op op_add (pv 4) (pe_call G__law_number (hr.mono (by decide)) rfl T.g__law_number T.F__law_number.kp T.b__law_number .nil passL (pa_cons (pe_call G__law_cell (hr.mono (by decide)) rfl T.g__law_cell T.F__law_cell.kp T.b__law_cell .nil passL (pa_cons (pv 0) (pa_cons (pv 3) pa_nil))) pa_nil))) pa_nil)))))))))) (pg_name (i := 6) sc_law.nd rfl (Or.inl rfl)) (pss_one (ps_if (pt_not (pt_val (pe_call G__law_answers (hr.mono (by decide)) rfl T.g__law_answers T.F__law_answers.kp T.b__law_answers .nil passL (pa_cons (pe_ix ix_list (pv 2) (pv 3) (fun _ _ => rfl)) (pa_cons (pv 4) (pa_cons (pv 5) (pa_cons (pv 6) pa_nil))))))) (pss_one (ps_ret pe_bl)) pss_nil)))
      (pss_one (ps_if (PW.pt (pw_or (pt_not (pt_val (pe_call G__law_same (hr.mono (by decide)) rfl T.g__law_same T.F__law_same.kp T.b__law_same .nil passL (pa_cons (pe_meth (pe_ix ix_list (pv 2) pe_int (fun _ _ => rfl)) T.k_Span.cl T.m_Span_is_before G_Span_is_before (hr.mono (by decide)) T.b_Span_is_before .nil passL (pa_cons (pe_ix ix_list (pv 2) (pv 3) (fun _ _ => rfl)) pa_nil)) (pa_cons (pe_cmpR op_lt (pe_ix ix_tup (pe_ix ix_list (pv 1) pe_int (fun _ _ => rfl)) pe_int (fun _ _ => rfl)) (pv 4) (nomark _)) pa_nil))))) (pw_or1 (pt_not (pt_val (pe_call G__law_refused (hr.mono (by decide)) rfl T.g__law_refused T.F__law_refused.kp T.b__law_refused .nil passL (pa_cons (pe_op op_add (pv 5) pe_int) (pa_cons (pv 4) pa_nil)))))))) (pss_one (ps_ret pe_bl)) pss_nil))))))
      (pss_cons (ps_set (i := 4) sc_law.nd rfl (Or.inl rfl) (pe_callB (cr_max rfl) (by rfl) T.z_max (by decide +kernel) (pa_cons (pe_lc (own := [("pair", 9)]) (by rfl) sc_law.nd (pi_list (pv 1)) (blkOk_by (own := [("pair", 9)]) (N := ["script", "ends", "spans", "k", "low", "high", "time", "given", "actual", "pair"]) (sc := defScope s_law) (by decide +kernel)) (fun _ _ _ _ _ => (pg_name (i := 9) sc_law.nd rfl (Or.inl rfl))) (fun _ _ _ _ _ => pts_nil) (fun _ _ _ _ _ => (pe_ix (ixK (K := K) (r := rIxT) rfl ix_tup) (pv 9) pe_int (fun _ _ => rfl)))) pa_nil)))
      (pss_cons (ps_set (i := 5) sc_law.nd rfl (Or.inl rfl) (pe_callB (cr_min rfl) (by rfl) T.z_min (by decide +kernel) (pa_cons (pe_lc (own := [("pair", 9)]) (by rfl) sc_law.nd (pi_list (pv 1)) (blkOk_by (own := [("pair", 9)]) (N := ["script", "ends", "spans", "k", "low", "high", "time", "given", "actual", "pair"]) (sc := defScope s_law) (by decide +kernel)) (fun _ _ _ _ _ => (pg_name (i := 9) sc_law.nd rfl (Or.inl rfl))) (fun _ _ _ _ _ => pts_nil) (fun _ _ _ _ _ => (pe_ix (ixK (K := K) (r := rIxT) rfl ix_tup) (pv 9) pe_int (fun _ _ => rfl)))) pa_nil)))
      (pss_cons (ps_set (i := 7) sc_law.nd rfl (Or.inl rfl) (pe_callTy call_list_of (by rfl) T.z_list (by decide +kernel) (pa_cons (pv 2) pa_nil)))
      (pss_cons (ps_set (i := 8) sc_law.nd rfl (Or.inl rfl) (pe_call G_common_span (hr.mono (by decide)) rfl T.g_common_span T.F_common_span.kp T.b_common_span .nil passL (pa_cons (pv 7) pa_nil)))
      (pss_cons (ps_if (pt_cmpR op_ne (pe_callB call_len (by rfl) T.z_len (by decide +kernel) (pa_cons (pv 7) pa_nil)) (pe_callB call_len (by rfl) T.z_len (by decide +kernel) (pa_cons (pv 2) pa_nil)) (nomark _)) (pss_one (ps_ret pe_bl)) pss_nil)
      (pss_cons (ps_if (pt_cmpR op_gt (pv 4) (pv 5) (nomark _)) (pss_one (ps_ret (pe_cmpR op_isN (pv 8) pe_non (nomark _)))) pss_nil)
      (pss_one (ps_ret (pe_and (pe_callB call_isi (by rfl) T.z_isinstance (by decide +kernel) (pa_cons (pv 8) (pa_cons (pe_glob (v := .ref T.a_Span) rfl T.k_Span.mgC rfl) pa_nil))) (pe_one (pe_call G__law_answers (hr.mono (by decide)) rfl T.g__law_answers T.F__law_answers.kp T.b__law_answers .nil passL (pa_cons (pv 8) (pa_cons (pv 4) (pa_cons (pv 5) (pa_cons (pv 4) pa_nil))))))))))))))))))), ?_⟩
  refine ⟨rfl, fun H1 s1 => ⟨_, rfl, ifF rfl ?_⟩⟩
  -- ends
  obtain ⟨n, hn, hn1, hn6⟩ : ∃ n : Nat, (1 + (((ns.map V.int).length : Nat) : Int) / 2 % 6) = (n : Int) ∧ 1 ≤ n ∧ n ≤ 6 := ⟨(1 + (((ns.map V.int).length : Nat) : Int) / 2 % 6).toNat, by omega, by omega, by omega⟩
  refine ⟨_, rfl, _, _, rfl, .inl ⟨_, s1.seq hS, rfl⟩, _, _, rfl, rfl, ⟨by decide, by decide⟩, _, _, rfl, rfl, by show (0 : Int) < _; decide, _, _, rfl, rfl, _, rfl, by omega, by omega, fun pe npe => ?_⟩
  have hnn : (1 + (((ns.map V.int).length : Nat) : Int) / 2 % 6).toNat = n := by omega
  refine lc_range (fun i H' => Same H1 H' ∧ ∃ as, H' pe = some (.lst (as.map V.ref)) ∧ as.length = (endsOf ns i).length ∧ ∀ (j : Nat) (c : Addr), as[j]? = some c → c ≠ pe ∧ ∃ e, (endsOf ns i)[j]? = some e ∧ H' c = some (.tup [.int e.1, .int e.2])) ⟨same_new npe, [], upd_same, rfl, fun j c hj => by simp at hj⟩ ?_ ?_
  · rintro i H' hi ⟨sA, as, hp, hl, he⟩
    refine ⟨rfl, yes_if ?_⟩
    refine ⟨_, rfl, _, rfl, _, _, rfl, rfl, .inl ⟨by decide, by decide⟩, a, ns, _, rfl, (s1.trans sA).seq hS, by omega, _, rfl, _, rfl, _, _, rfl, rfl, .inl ⟨by decide, by decide⟩, _, _, rfl, rfl, a, ns, _, rfl, (s1.trans sA).seq hS, by omega, _, _, rfl, cell_nn _ _, cell_nn _ _, fun q HB sB nq hq => ?_⟩
    have hpB := sB _ _ hp
    have nqp : q ≠ pe := (ne_of_none hp nq).symm
    refine ⟨_, hpB, szl (by rw [List.length_map, hl, endsOf_len]; omega), same_mut (sA.trans sB) npe, as ++ [q], by rw [upd_same, List.map_append]; rfl, ?_⟩
    rw [endsOf_succ]
    exact push_ref (R := fun H c e => H c = some (.tup [.int e.1, .int e.2])) (p := pe) (fun H H' a e k hne h => k _ _ h hne) hl (fun j c hj => by
      obtain ⟨g1, e, g2, g3⟩ := he j c hj
      exact ⟨g1, e, g2, sB _ _ g3⟩) hq nqp upd_keep
  rintro H2 ⟨s2, as, hpe, hal, hae⟩
  rw [hnn] at hal hae
  have hE : Ends2 H2 pe as (endsOf ns n) := ⟨hpe, hal, fun j c hj => (hae j c hj).2⟩
  have hel := endsOf_len ns n
  have hle := endsOf_le (ns := ns) (k := n)
  generalize endsOf ns n = es at hE hel hle hal
  have sH2 := s1.trans s2
  clear hae
  -- spans
  refine ⟨_, rfl, pe, rfl, ⟨_, SqL.of hE.at_⟩, fun pq npq => lc_list (K := K) (a := pe) (xs := as.map V.ref) (fun i H' => Same H2 H' ∧ ∃ bs, H' pq = some (.lst (bs.map V.ref)) ∧ bs.length = (es.take i).length ∧ ∀ (j : Nat) (c : Addr), bs[j]? = some c → c ≠ pq ∧ ∃ e, (es.take i)[j]? = some e ∧ SpanAt T H' c e.1 e.2) ⟨same_new npq, [], upd_same, rfl, fun j c hj => by simp at hj⟩ (fun i H' _ h => SqL.of (h.1 _ _ hE.at_)) ?_ ?_⟩
  · rintro i x H' hx ⟨sA, bs, hp, hl, he⟩
    obtain ⟨c, hc, rfl⟩ := mem_ref hx
    obtain ⟨e, hei, hct⟩ := (hE.same sA).each i c hc
    have hlt := hle e (List.mem_of_getElem? hei)
    refine ⟨rfl, yes_if ?_⟩
    refine ⟨_, rfl, c, _, _, .int e.1, rfl, rfl, SqT.of hct, atI_nat (j := 0) rfl, _, rfl, c, _, _, .int e.2, rfl, rfl, SqT.of hct, atI_nat (j := 1) rfl, fun x dx nx ndx nex => ⟨x, dx, e.1, e.2, rfl, upd_same, fun _ HB hxB k => ⟨rfl, ?_⟩, fun q => absurd q (by omega)⟩⟩
    have sB : Same H' HB := Same.made nx ndx k
    have nqp : x ≠ pq := (ne_of_none hp nx).symm
    refine ⟨_, sB _ _ hp, szl (by rw [List.length_map, hl, List.length_take]; omega), same_mut (sA.trans sB) npq, bs ++ [x], by rw [upd_same, List.map_append]; rfl, ?_⟩
    rw [take_succ hei]
    exact push_ref (R := fun H c e => SpanAt T H c e.1 e.2) (p := pq) (fun H H' a e k hne h => by obtain ⟨d, h⟩ := h; exact ⟨d, k _ _ h hne⟩) hl (fun j c hj => by
      obtain ⟨g1, e, g2, g3⟩ := he j c hj
      exact ⟨g1, e, g2, g3.same sB⟩) hxB nqp upd_keep
  rintro H3 ⟨s3, bs, hpq, hbl, hbe⟩
  rw [List.length_map, hal, List.take_length] at hbl hbe
  have hSp : Spans T H3 pq bs es := ⟨hpq, hbl, fun j c hj => (hbe j c hj).2⟩
  clear hbe
  have hE3 := hE.same s3
  have sH3 := sH2.trans s3
  -- the loop
  obtain ⟨e0, he0⟩ : ∃ e, es[0]? = some e := ⟨_, List.getElem?_eq_getElem (by omega)⟩
  refine ⟨_, rfl, _, _, rfl, .inl ⟨_, SqL.of hE3.at_, rfl⟩, _, rfl, by rw [List.length_map]; omega, by rw [List.length_map]; omega, ?_⟩
  rw [List.length_map, Int.toNat_natCast, hal]
  refine for_range (n := es.length) (fun i σ H' => ∃ v3 v4 v5 v6, σ = [some (.ref a), some (.ref pe), some (.ref pq), v3, v4, v5, v6, none, none, none] ∧ Same H3 H') ⟨none, none, none, none, rfl, Same.refl _⟩ ?_ ?_
  · rintro i σ HA hi ⟨v3, v4, v5, v6, rfl, sA⟩
    have hEA := hE3.same sA
    have hSA := hSp.same sA
    obtain ⟨e, hei⟩ : ∃ e, es[i]? = some e := ⟨_, List.getElem?_eq_getElem hi⟩
    obtain ⟨c, hc, hct⟩ := hEA.get hei
    obtain ⟨c0, hc0, hct0⟩ := hEA.get he0
    obtain ⟨b, hb, hbt⟩ := hSA.get hei
    obtain ⟨b0, hb0, hbt0⟩ := hSA.get he0
    have z0 : (0 : Int) + (i : Int) = (i : Int) := by omega
    refine ⟨_, rfl, _, rfl, pe, _, _, _, rfl, rfl, SqL.of hEA.at_, at_ref z0 hc, c, _, _, .int e.1, rfl, rfl, SqT.of hct, atI_nat (j := 0) rfl, ?_⟩
    refine ⟨_, rfl, _, rfl, pe, _, _, _, rfl, rfl, SqL.of hEA.at_, at_ref z0 hc, c, _, _, .int e.2, rfl, rfl, SqT.of hct, atI_nat (j := 1) rfl, ?_⟩
    -- for time in [..]
    refine ⟨_, rfl, _, _, rfl, rfl, _, rfl, _, rfl, _, _, rfl, rfl, _, rfl, _, _, rfl, rfl, _, rfl, _, rfl, _, _, rfl, rfl, _, rfl, pe, _, _, _, rfl, rfl, SqL.of hEA.at_, at_ref rfl hc0, c0, _, _, .int e0.1, rfl, rfl, SqT.of hct0, atI_nat (j := 0) rfl, _, rfl, _, rfl, _, rfl, a, ns, _, rfl, (sH3.trans sA).seq hS, by omega, _, rfl, cell_nn _ _, fun HB sB => ⟨_, _, rfl, rfl, (by show 8 ≤ sizeLine; decide), fun pt npt => ⟨pt, rfl, ⟨_, SqL.of upd_same⟩, ?_⟩⟩⟩
    have sC := sB.trans (same_new (o := .lst [.int (e.1 - 1), .int e.1, .int (e.1 + 1), .int (e.2 - 1), .int e.2, .int (e.2 + 1), .int e0.1, .int (e.1 + lawNum (cell ns (0 + (i : Int))))]) npt)
    have hpt : upd HB pt (.lst [.int (e.1 - 1), .int e.1, .int (e.1 + 1), .int (e.2 - 1), .int e.2, .int (e.2 + 1), .int e0.1, .int (e.1 + lawNum (cell ns (0 + (i : Int))))]) pt = some (.lst (([e.1 - 1, e.1, e.1 + 1, e.2 - 1, e.2, e.2 + 1, e0.1, e.1 + lawNum (cell ns (0 + (i : Int)))] : List Int).map V.int)) := upd_same
    refine for_list (K := K) (a := pt) (xs := ([e.1 - 1, e.1, e.1 + 1, e.2 - 1, e.2, e.2 + 1, e0.1, e.1 + lawNum (cell ns (0 + (i : Int)))] : List Int).map V.int) (fun j σ H' => ∃ v6, σ = [some (.ref a), some (.ref pe), some (.ref pq), some (.int (0 + (i : Int))), some (.int e.1), some (.int e.2), v6, none, none, none] ∧ Same HA H' ∧ H' pt = some (.lst (([e.1 - 1, e.1, e.1 + 1, e.2 - 1, e.2, e.2 + 1, e0.1, e.1 + lawNum (cell ns (0 + (i : Int)))] : List Int).map V.int))) ⟨v6, rfl, sC, hpt⟩ (fun j σ H' _ ⟨_, _, _, h⟩ => SqL.of h) ?_ ?_
    · rintro j y σ HD hj ⟨v6, rfl, sD, hD⟩
      obtain ⟨t, ht, rfl⟩ := mem_int hj
      refine ⟨_, rfl, _, rfl, pq, _, _, _, rfl, rfl, SqL.of (sD _ _ hSA.at_), at_ref z0 hb, _, rfl, _, rfl, _, rfl, b, e.1, e.2, t, rfl, hbt.same sD, _, rfl, ifF rfl ?_⟩
      exact ⟨_, rfl, sD, hD⟩
    rintro σ HD ⟨v6, rfl, sD, hD⟩
    have hED := hEA.same sD
    have hSD := hSA.same sD
    obtain ⟨dx0, hx0⟩ := hbt0.same sD
    refine ⟨_, rfl, pq, _, _, _, rfl, rfl, SqL.of hSD.at_, at_ref rfl hb0, b0, dx0, _, rfl, hx0, spf_no _ _ (by decide +kernel) (by decide +kernel), _, rfl, _, rfl, pq, _, _, _, rfl, rfl, SqL.of hSD.at_, at_ref z0 hb, b0, b, e0.1, e0.2, e.1, e.2, rfl, ⟨dx0, hx0⟩, hbt.same sD, ?_⟩
    refine ⟨_, rfl, pe, _, _, _, rfl, rfl, SqL.of hED.at_, at_ref rfl hc0, c0, _, _, .int e0.2, rfl, rfl, SqT.of (sD _ _ hct0), atI_nat (j := 1) rfl, _, rfl, _, _, rfl, rfl, decide (e0.2 < e.1), rfl, _, rfl, ifF rfl ?_⟩
    refine ⟨_, rfl, _, _, rfl, rfl, _, rfl, e.2 + 1, e.1, rfl, by have := hle e (List.mem_of_getElem? hei); omega, fun HE sE => ⟨_, rfl, ifF rfl ?_⟩⟩
    exact ⟨_, _, _, _, rfl, sA.trans (sD.trans sE)⟩
  rintro σ HA ⟨v3, v4, v5, v6, rfl, sA⟩
  have hEA := hE3.same sA
  have hSA := hSp.same sA
  -- low = max([pair[0] for pair in ends])
  refine ⟨_, rfl, pe, rfl, ⟨_, SqL.of hEA.at_⟩, fun D hD => lc_list (K := K) (a := pe) (xs := as.map V.ref) (fun i H' => Same HA H' ∧ Li H' D ((es.map (·.1)).take i)) ⟨same_new hD, upd_same⟩ (fun i H' _ h => SqL.of (h.1 _ _ hEA.at_)) ?_ ?_⟩
  · rintro i x H' hx ⟨sB, hl⟩
    obtain ⟨c, hc, rfl⟩ := mem_ref hx
    obtain ⟨e, he, hct⟩ := (hEA.same sB).each i c hc
    have hi : i < es.length := (List.getElem?_eq_some_iff.mp he).1
    refine ⟨rfl, yes_if ?_⟩
    refine ⟨_, rfl, c, _, _, .int e.1, rfl, rfl, SqT.of hct, atI_nat (j := 0) rfl, _, hl, szl (by rw [List.length_map, List.length_take, List.length_map]; omega), same_mut sB hD, ?_⟩
    rw [take_succ (show (es.map (·.1))[i]? = some e.1 by rw [List.getElem?_map, he]; rfl)]
    exact li_push
  rintro HB ⟨sB, hl1⟩
  rw [List.length_map, hal, show (es.map (·.1)).take es.length = es.map (·.1) from List.take_of_length_le (by rw [List.length_map]; exact Nat.le_refl _)] at hl1
  have hne : es ≠ [] := fun q => by rw [q] at hel; simp at hel; omega
  refine ⟨D, _, rfl, SqL.of hl1, by rw [List.length_map]; exact List.length_pos_iff.mpr hne, fun lo hlo1 hlo2 => ?_⟩
  have hEB := hEA.same sB
  refine ⟨_, rfl, pe, rfl, ⟨_, SqL.of hEB.at_⟩, fun D2 hD2 => lc_list (K := K) (a := pe) (xs := as.map V.ref) (fun i H' => Same HB H' ∧ Li H' D2 ((es.map (·.2)).take i)) ⟨same_new hD2, upd_same⟩ (fun i H' _ h => SqL.of (h.1 _ _ hEB.at_)) ?_ ?_⟩
  · rintro i x H' hx ⟨sC, hl⟩
    obtain ⟨c, hc, rfl⟩ := mem_ref hx
    obtain ⟨e, he, hct⟩ := (hEB.same sC).each i c hc
    have hi : i < es.length := (List.getElem?_eq_some_iff.mp he).1
    refine ⟨rfl, yes_if ?_⟩
    refine ⟨_, rfl, c, _, _, .int e.2, rfl, rfl, SqT.of hct, atI_nat (j := 1) rfl, _, hl, szl (by rw [List.length_map, List.length_take, List.length_map]; omega), same_mut sC hD2, ?_⟩
    rw [take_succ (show (es.map (·.2))[i]? = some e.2 by rw [List.getElem?_map, he]; rfl)]
    exact li_push
  rintro HC ⟨sC, hl2⟩
  rw [List.length_map, hal, show (es.map (·.2)).take es.length = es.map (·.2) from List.take_of_length_le (by rw [List.length_map]; exact Nat.le_refl _)] at hl2
  refine ⟨D2, _, rfl, SqL.of hl2, by rw [List.length_map]; exact List.length_pos_iff.mpr hne, fun hi hhi1 hhi2 => ?_⟩
  have sBC := sB.trans sC
  have hSC := hSA.same sBC
  -- given = list(spans)
  refine ⟨_, rfl, pq, _, rfl, .inl (SqL.of hSC.at_), fun pg ng => ?_⟩
  have sD := same_new (o := .lst (bs.map V.ref)) ng
  have hgD : Spans T (upd HC pg (.lst (bs.map V.ref))) pg bs es := ⟨upd_same, hbl, (hSC.same sD).each⟩
  have hqD := hSC.same sD
  show tSeq _ _ _ _ (upd HC pg (.lst (bs.map V.ref)))
  generalize upd HC pg (.lst (bs.map V.ref)) = HD at sD hgD hqD
  refine ⟨_, rfl, pg, bs, es, rfl, hgD, by omega, fun q => absurd q hne, fun _ lo2 hi2 g1 g2 => ?_⟩
  have elo : lo2 = lo := g1.eq ⟨hlo1, hlo2⟩
  have ehi : hi2 = hi := g2.eq ⟨hhi1, hhi2⟩
  subst elo ehi
  refine ⟨fun hlt H' sE => ?_, fun hle2 c H' sE hc => ?_⟩
  · refine ⟨_, rfl, _, _, rfl, .inl ⟨_, SqL.of (sE _ _ hgD.at_), rfl⟩, _, rfl, _, _, rfl, .inl ⟨_, SqL.of (sE _ _ hqD.at_), rfl⟩, rfl, _, rfl, ifF (by simp) ?_⟩
    refine ⟨_, rfl, _, rfl, _, _, rfl, rfl, _, rfl, ifT (decide_eq_true hlt) ⟨_, rfl, rfl, h1 _⟩⟩
  · refine ⟨_, rfl, _, _, rfl, .inl ⟨_, SqL.of (sE _ _ hgD.at_), rfl⟩, _, rfl, _, _, rfl, .inl ⟨_, SqL.of (sE _ _ hqD.at_), rfl⟩, rfl, _, rfl, ifF (by simp) ?_⟩
    refine ⟨_, rfl, _, rfl, _, _, rfl, rfl, _, rfl, ifF (decide_eq_false (by omega)) ?_⟩
    obtain ⟨dc, hdc⟩ := id hc
    refine ⟨_, rfl, _, _, _, _, _, rfl, .own _, T.k_Span.ty hdc, kit_self (by simp), _, rfl, iteT ?_⟩
    exact ⟨_, rfl, _, rfl, _, rfl, _, rfl, c, _, _, _, rfl, hc, h1 _⟩

end
theorem all_mk {l : PySem.W.OpenLaw} {w : World} {K : PySem.W.Frag} {h : Heap} {mg : Str → Option Value} {fa C_MeridianError C_BadArgument C_Span f_Span_init f_Span_contains f_Span_is_past f_Span_is_ahead f_Span_is_before f_common_span f__law_cell f__law_is_int f__law_number f__law_same f__law_refused f__law_none f__law_ends f__law_answers f_law : Addr} (X : K.In h) (G : h.Ns mainGlobals mg) (hfa : mg "law" = some (.ref fa))
    {od_Span_init an_Span_init : Option Addr} {sl_Span_init : Array (Option Value)} {oc_Span_init kV_Span_init dc_Span_init pm_Span_init cd_Span_init ct_Span_init : Value}
    {od_Span_contains an_Span_contains : Option Addr} {sl_Span_contains : Array (Option Value)} {oc_Span_contains kV_Span_contains dc_Span_contains pm_Span_contains cd_Span_contains ct_Span_contains : Value}
    {od_Span_is_past an_Span_is_past : Option Addr} {sl_Span_is_past : Array (Option Value)} {oc_Span_is_past kV_Span_is_past dc_Span_is_past pm_Span_is_past cd_Span_is_past ct_Span_is_past : Value}
    {od_Span_is_ahead an_Span_is_ahead : Option Addr} {sl_Span_is_ahead : Array (Option Value)} {oc_Span_is_ahead kV_Span_is_ahead dc_Span_is_ahead pm_Span_is_ahead cd_Span_is_ahead ct_Span_is_ahead : Value}
    {od_Span_is_before an_Span_is_before : Option Addr} {sl_Span_is_before : Array (Option Value)} {oc_Span_is_before kV_Span_is_before dc_Span_is_before pm_Span_is_before cd_Span_is_before ct_Span_is_before : Value}
    {od_common_span an_common_span : Option Addr} {sl_common_span : Array (Option Value)} {oc_common_span kV_common_span dc_common_span pm_common_span cd_common_span ct_common_span : Value}
    {od__law_cell an__law_cell : Option Addr} {sl__law_cell : Array (Option Value)} {oc__law_cell kV__law_cell dc__law_cell pm__law_cell cd__law_cell ct__law_cell : Value}
    {od__law_is_int an__law_is_int : Option Addr} {sl__law_is_int : Array (Option Value)} {oc__law_is_int kV__law_is_int dc__law_is_int pm__law_is_int cd__law_is_int ct__law_is_int : Value}
    {od__law_number an__law_number : Option Addr} {sl__law_number : Array (Option Value)} {oc__law_number kV__law_number dc__law_number pm__law_number cd__law_number ct__law_number : Value}
    {od__law_same an__law_same : Option Addr} {sl__law_same : Array (Option Value)} {oc__law_same kV__law_same dc__law_same pm__law_same cd__law_same ct__law_same : Value}
    {od__law_refused an__law_refused : Option Addr} {sl__law_refused : Array (Option Value)} {oc__law_refused kV__law_refused dc__law_refused pm__law_refused cd__law_refused ct__law_refused : Value}
    {od__law_none an__law_none : Option Addr} {sl__law_none : Array (Option Value)} {oc__law_none kV__law_none dc__law_none pm__law_none cd__law_none ct__law_none : Value}
    {od__law_ends an__law_ends : Option Addr} {sl__law_ends : Array (Option Value)} {oc__law_ends kV__law_ends dc__law_ends pm__law_ends cd__law_ends ct__law_ends : Value}
    {od__law_answers an__law_answers : Option Addr} {sl__law_answers : Array (Option Value)} {oc__law_answers kV__law_answers dc__law_answers pm__law_answers cd__law_answers ct__law_answers : Value}
    {od_law an_law : Option Addr} {sl_law : Array (Option Value)} {oc_law kV_law dc_law pm_law cd_law ct_law : Value}
    (mg_MeridianError : PySem.W.nsIn K mainGlobals "MeridianError" = some (some (.ref C_MeridianError)))
    (x_MeridianError : PySem.W.excIn K C_MeridianError [.type "ValueError", .type "Exception", .type "BaseException", .type "object"] "ValueError.__new__" = true)
    (kc_MeridianError : PySem.W.keepIn K (.ref C_MeridianError) = true)
    (bp_MeridianError : PySem.W.subIn K (.ref C_MeridianError) (.type "BaseException") = some true)
    (tp_MeridianError : PySem.W.typeIn K (.ref C_MeridianError) = some (.type "type"))
    (ip_MeridianError : PySem.W.isClsIn K C_MeridianError = true)
    (ga_MeridianError : PySem.W.findIn K (.ref C_MeridianError) "__getattribute__" = some (some (.builtin "BaseException.__getattribute__")))
    (gt_MeridianError : PySem.W.findIn K (.ref C_MeridianError) "__getattr__" = some none)
    (hd_MeridianError : PySem.W.hasDictIn K C_MeridianError = true)
    (ca_MeridianError : PySem.W.findIn K (.ref C_MeridianError) "__class__" = some (some (.builtin "object.__class__")))
    (mo_MeridianError : PySem.W.mroIn K C_MeridianError (.type "object") = some true)
    (ve_MeridianError : PySem.W.subIn K (.ref C_MeridianError) (.type "ValueError") = some true)
    (u_MeridianError_MeridianError : PySem.W.subIn K (.ref C_MeridianError) (.ref C_MeridianError) = some true)
    (u_MeridianError_BadArgument : PySem.W.subIn K (.ref C_MeridianError) (.ref C_BadArgument) = some false)
    (mg_BadArgument : PySem.W.nsIn K mainGlobals "BadArgument" = some (some (.ref C_BadArgument)))
    (x_BadArgument : PySem.W.excIn K C_BadArgument [.type "ValueError", .type "Exception", .type "BaseException", .type "object"] "ValueError.__new__" = true)
    (kc_BadArgument : PySem.W.keepIn K (.ref C_BadArgument) = true)
    (bp_BadArgument : PySem.W.subIn K (.ref C_BadArgument) (.type "BaseException") = some true)
    (tp_BadArgument : PySem.W.typeIn K (.ref C_BadArgument) = some (.type "type"))
    (ip_BadArgument : PySem.W.isClsIn K C_BadArgument = true)
    (ga_BadArgument : PySem.W.findIn K (.ref C_BadArgument) "__getattribute__" = some (some (.builtin "BaseException.__getattribute__")))
    (gt_BadArgument : PySem.W.findIn K (.ref C_BadArgument) "__getattr__" = some none)
    (hd_BadArgument : PySem.W.hasDictIn K C_BadArgument = true)
    (ca_BadArgument : PySem.W.findIn K (.ref C_BadArgument) "__class__" = some (some (.builtin "object.__class__")))
    (mo_BadArgument : PySem.W.mroIn K C_BadArgument (.type "object") = some true)
    (ve_BadArgument : PySem.W.subIn K (.ref C_BadArgument) (.type "ValueError") = some true)
    (u_BadArgument_MeridianError : PySem.W.subIn K (.ref C_BadArgument) (.ref C_MeridianError) = some true)
    (u_BadArgument_BadArgument : PySem.W.subIn K (.ref C_BadArgument) (.ref C_BadArgument) = some true)
    (cn : PySem.W.specialIn K (.builtin "object.__class__") "__get__" = some (some (.builtin "getset_descriptor.__get__")))
    (ct : PySem.W.takesIn K (.builtin "object.__class__") = some true)
    (mg_Span : PySem.W.nsIn K mainGlobals "Span" = some (some (.ref C_Span)))
    (pg_Span : PySem.W.plainGet K C_Span Str.empty = true)
    (hd_Span : PySem.W.hasDictIn K C_Span = true)
    (po_Span : PySem.W.plainOver K C_Span = true)
    (sa_Span : PySem.W.findIn K (.ref C_Span) "__setattr__" = some (some (.builtin "object.__setattr__")))
    (mk_Span : PySem.W.makesIn K C_Span = true)
    (kc_Span : PySem.W.keepIn K (.ref C_Span) = true)
    (ca_Span : PySem.W.findIn K (.ref C_Span) "__class__" = some (some (.builtin "object.__class__")))
    (mo_Span : PySem.W.mroIn K C_Span (.type "object") = some true)
    (na_Span_low : PySem.W.findIn K (.ref C_Span) "low" = some none)
    (na_Span_high : PySem.W.findIn K (.ref C_Span) "high" = some none)
    (a_Span_init : PySem.W.findIn K (.ref C_Span) "__init__" = some (some (.ref f_Span_init)))
    (i_Span_init : PySem.W.isFn K (.ref f_Span_init) = true)
    (l_Span_init : K.lookup f_Span_init = some ⟨oc_Span_init, od_Span_init, .func (PySem.W.fnOf "__init__" "Span.__init__" (defArgs s_Span_init) (defBody s_Span_init) (defScope s_Span_init) .none kV_Span_init dc_Span_init pm_Span_init an_Span_init cd_Span_init ct_Span_init), sl_Span_init⟩)
    (c_Span_init : PySem.W.codeIn K cd_Span_init "Span.__init__" = true)
    (k_Span_init : PySem.W.keepIn K (.ref f_Span_init) = true)
    (a_Span_contains : PySem.W.findIn K (.ref C_Span) "__contains__" = some (some (.ref f_Span_contains)))
    (i_Span_contains : PySem.W.isFn K (.ref f_Span_contains) = true)
    (l_Span_contains : K.lookup f_Span_contains = some ⟨oc_Span_contains, od_Span_contains, .func (PySem.W.fnOf "__contains__" "Span.__contains__" (defArgs s_Span_contains) (defBody s_Span_contains) (defScope s_Span_contains) .none kV_Span_contains dc_Span_contains pm_Span_contains an_Span_contains cd_Span_contains ct_Span_contains), sl_Span_contains⟩)
    (c_Span_contains : PySem.W.codeIn K cd_Span_contains "Span.__contains__" = true)
    (k_Span_contains : PySem.W.keepIn K (.ref f_Span_contains) = true)
    (a_Span_is_past : PySem.W.findIn K (.ref C_Span) "is_past" = some (some (.ref f_Span_is_past)))
    (i_Span_is_past : PySem.W.isFn K (.ref f_Span_is_past) = true)
    (l_Span_is_past : K.lookup f_Span_is_past = some ⟨oc_Span_is_past, od_Span_is_past, .func (PySem.W.fnOf "is_past" "Span.is_past" (defArgs s_Span_is_past) (defBody s_Span_is_past) (defScope s_Span_is_past) .none kV_Span_is_past dc_Span_is_past pm_Span_is_past an_Span_is_past cd_Span_is_past ct_Span_is_past), sl_Span_is_past⟩)
    (c_Span_is_past : PySem.W.codeIn K cd_Span_is_past "Span.is_past" = true)
    (k_Span_is_past : PySem.W.keepIn K (.ref f_Span_is_past) = true)
    (a_Span_is_ahead : PySem.W.findIn K (.ref C_Span) "is_ahead" = some (some (.ref f_Span_is_ahead)))
    (i_Span_is_ahead : PySem.W.isFn K (.ref f_Span_is_ahead) = true)
    (l_Span_is_ahead : K.lookup f_Span_is_ahead = some ⟨oc_Span_is_ahead, od_Span_is_ahead, .func (PySem.W.fnOf "is_ahead" "Span.is_ahead" (defArgs s_Span_is_ahead) (defBody s_Span_is_ahead) (defScope s_Span_is_ahead) .none kV_Span_is_ahead dc_Span_is_ahead pm_Span_is_ahead an_Span_is_ahead cd_Span_is_ahead ct_Span_is_ahead), sl_Span_is_ahead⟩)
    (c_Span_is_ahead : PySem.W.codeIn K cd_Span_is_ahead "Span.is_ahead" = true)
    (k_Span_is_ahead : PySem.W.keepIn K (.ref f_Span_is_ahead) = true)
    (a_Span_is_before : PySem.W.findIn K (.ref C_Span) "is_before" = some (some (.ref f_Span_is_before)))
    (i_Span_is_before : PySem.W.isFn K (.ref f_Span_is_before) = true)
    (l_Span_is_before : K.lookup f_Span_is_before = some ⟨oc_Span_is_before, od_Span_is_before, .func (PySem.W.fnOf "is_before" "Span.is_before" (defArgs s_Span_is_before) (defBody s_Span_is_before) (defScope s_Span_is_before) .none kV_Span_is_before dc_Span_is_before pm_Span_is_before an_Span_is_before cd_Span_is_before ct_Span_is_before), sl_Span_is_before⟩)
    (c_Span_is_before : PySem.W.codeIn K cd_Span_is_before "Span.is_before" = true)
    (k_Span_is_before : PySem.W.keepIn K (.ref f_Span_is_before) = true)
    (a_common_span : PySem.W.nsIn K mainGlobals "common_span" = some (some (.ref f_common_span)))
    (l_common_span : K.lookup f_common_span = some ⟨oc_common_span, od_common_span, .func (PySem.W.fnOf "common_span" "common_span" (defArgs s_common_span) (defBody s_common_span) (defScope s_common_span) .none kV_common_span dc_common_span pm_common_span an_common_span cd_common_span ct_common_span), sl_common_span⟩)
    (c_common_span : PySem.W.codeIn K cd_common_span "common_span" = true)
    (k_common_span : PySem.W.keepIn K (.ref f_common_span) = true)
    (a__law_cell : PySem.W.nsIn K mainGlobals "_law_cell" = some (some (.ref f__law_cell)))
    (l__law_cell : K.lookup f__law_cell = some ⟨oc__law_cell, od__law_cell, .func (PySem.W.fnOf "_law_cell" "_law_cell" (defArgs s__law_cell) (defBody s__law_cell) (defScope s__law_cell) .none kV__law_cell dc__law_cell pm__law_cell an__law_cell cd__law_cell ct__law_cell), sl__law_cell⟩)
    (c__law_cell : PySem.W.codeIn K cd__law_cell "_law_cell" = true)
    (k__law_cell : PySem.W.keepIn K (.ref f__law_cell) = true)
    (a__law_is_int : PySem.W.nsIn K mainGlobals "_law_is_int" = some (some (.ref f__law_is_int)))
    (l__law_is_int : K.lookup f__law_is_int = some ⟨oc__law_is_int, od__law_is_int, .func (PySem.W.fnOf "_law_is_int" "_law_is_int" (defArgs s__law_is_int) (defBody s__law_is_int) (defScope s__law_is_int) .none kV__law_is_int dc__law_is_int pm__law_is_int an__law_is_int cd__law_is_int ct__law_is_int), sl__law_is_int⟩)
    (c__law_is_int : PySem.W.codeIn K cd__law_is_int "_law_is_int" = true)
    (k__law_is_int : PySem.W.keepIn K (.ref f__law_is_int) = true)
    (a__law_number : PySem.W.nsIn K mainGlobals "_law_number" = some (some (.ref f__law_number)))
    (l__law_number : K.lookup f__law_number = some ⟨oc__law_number, od__law_number, .func (PySem.W.fnOf "_law_number" "_law_number" (defArgs s__law_number) (defBody s__law_number) (defScope s__law_number) .none kV__law_number dc__law_number pm__law_number an__law_number cd__law_number ct__law_number), sl__law_number⟩)
    (c__law_number : PySem.W.codeIn K cd__law_number "_law_number" = true)
    (k__law_number : PySem.W.keepIn K (.ref f__law_number) = true)
    (a__law_same : PySem.W.nsIn K mainGlobals "_law_same" = some (some (.ref f__law_same)))
    (l__law_same : K.lookup f__law_same = some ⟨oc__law_same, od__law_same, .func (PySem.W.fnOf "_law_same" "_law_same" (defArgs s__law_same) (defBody s__law_same) (defScope s__law_same) .none kV__law_same dc__law_same pm__law_same an__law_same cd__law_same ct__law_same), sl__law_same⟩)
    (c__law_same : PySem.W.codeIn K cd__law_same "_law_same" = true)
    (k__law_same : PySem.W.keepIn K (.ref f__law_same) = true)
    (a__law_refused : PySem.W.nsIn K mainGlobals "_law_refused" = some (some (.ref f__law_refused)))
    (l__law_refused : K.lookup f__law_refused = some ⟨oc__law_refused, od__law_refused, .func (PySem.W.fnOf "_law_refused" "_law_refused" (defArgs s__law_refused) (defBody s__law_refused) (defScope s__law_refused) .none kV__law_refused dc__law_refused pm__law_refused an__law_refused cd__law_refused ct__law_refused), sl__law_refused⟩)
    (c__law_refused : PySem.W.codeIn K cd__law_refused "_law_refused" = true)
    (k__law_refused : PySem.W.keepIn K (.ref f__law_refused) = true)
    (a__law_none : PySem.W.nsIn K mainGlobals "_law_none" = some (some (.ref f__law_none)))
    (l__law_none : K.lookup f__law_none = some ⟨oc__law_none, od__law_none, .func (PySem.W.fnOf "_law_none" "_law_none" (defArgs s__law_none) (defBody s__law_none) (defScope s__law_none) .none kV__law_none dc__law_none pm__law_none an__law_none cd__law_none ct__law_none), sl__law_none⟩)
    (c__law_none : PySem.W.codeIn K cd__law_none "_law_none" = true)
    (k__law_none : PySem.W.keepIn K (.ref f__law_none) = true)
    (a__law_ends : PySem.W.nsIn K mainGlobals "_law_ends" = some (some (.ref f__law_ends)))
    (l__law_ends : K.lookup f__law_ends = some ⟨oc__law_ends, od__law_ends, .func (PySem.W.fnOf "_law_ends" "_law_ends" (defArgs s__law_ends) (defBody s__law_ends) (defScope s__law_ends) .none kV__law_ends dc__law_ends pm__law_ends an__law_ends cd__law_ends ct__law_ends), sl__law_ends⟩)
    (c__law_ends : PySem.W.codeIn K cd__law_ends "_law_ends" = true)
    (k__law_ends : PySem.W.keepIn K (.ref f__law_ends) = true)
    (a__law_answers : PySem.W.nsIn K mainGlobals "_law_answers" = some (some (.ref f__law_answers)))
    (l__law_answers : K.lookup f__law_answers = some ⟨oc__law_answers, od__law_answers, .func (PySem.W.fnOf "_law_answers" "_law_answers" (defArgs s__law_answers) (defBody s__law_answers) (defScope s__law_answers) .none kV__law_answers dc__law_answers pm__law_answers an__law_answers cd__law_answers ct__law_answers), sl__law_answers⟩)
    (c__law_answers : PySem.W.codeIn K cd__law_answers "_law_answers" = true)
    (k__law_answers : PySem.W.keepIn K (.ref f__law_answers) = true)
    (a_law : PySem.W.nsIn K mainGlobals "law" = some (some (.ref f_law)))
    (l_law : K.lookup f_law = some ⟨oc_law, od_law, .func (PySem.W.fnOf "law" "law" (defArgs s_law) (defBody s_law) (defScope s_law) .none kV_law dc_law pm_law an_law cd_law ct_law), sl_law⟩)
    (c_law : PySem.W.codeIn K cd_law "law" = true)
    (k_law : PySem.W.keepIn K (.ref f_law) = true)
    (z_max : PySem.W.nsIn K mainGlobals "max" = some none)
    (z_min : PySem.W.nsIn K mainGlobals "min" = some none)
    (z_len : PySem.W.nsIn K mainGlobals "len" = some none)
    (z_abs : PySem.W.nsIn K mainGlobals "abs" = some none)
    (z_int : PySem.W.nsIn K mainGlobals "int" = some none)
    (z_isinstance : PySem.W.nsIn K mainGlobals "isinstance" = some none)
    (z_bool : PySem.W.nsIn K mainGlobals "bool" = some none)
    (z_range : PySem.W.nsIn K mainGlobals "range" = some none)
    (z_list : PySem.W.nsIn K mainGlobals "list" = some none) :
    ∃ fd : FuncData, (∀ (s : Shared) (v : Value), BindsTo s fd ⟨[v], []⟩ [("script", v)]) ∧ ∀ base : Heap, K.In base → base.Ns mainGlobals mg → FnOk l.prog w K mg base CX0 5 fa fd ["script"] (spLaw K) := by
  have e : f_law = fa := (Value.ref.inj (Option.some.inj (hfa.symm.trans (PySem.W.mg_of X G a_law)))).symm
  subst e
  let T : Env K mg := {
    c_MeridianError := C_MeridianError,
    c_BadArgument := C_BadArgument,
    a_Span := C_Span,
    a_Span_init := f_Span_init,
    d_Span_init := _,
    F_Span_init := fun_mk (st := s_Span_init) l_Span_init c_Span_init k_Span_init,
    b_Span_init := (fun_mk (st := s_Span_init) l_Span_init c_Span_init k_Span_init).binds (ps := ["self", "low", "high"]) fun _ _ _ _ _ _ us hl => match us, hl with | [_, _, _], _ => rfl,
    a_Span_contains := f_Span_contains,
    d_Span_contains := _,
    F_Span_contains := fun_mk (st := s_Span_contains) l_Span_contains c_Span_contains k_Span_contains,
    b_Span_contains := (fun_mk (st := s_Span_contains) l_Span_contains c_Span_contains k_Span_contains).binds (ps := ["self", "time"]) fun _ _ _ _ _ _ us hl => match us, hl with | [_, _], _ => rfl,
    a_Span_is_past := f_Span_is_past,
    d_Span_is_past := _,
    F_Span_is_past := fun_mk (st := s_Span_is_past) l_Span_is_past c_Span_is_past k_Span_is_past,
    b_Span_is_past := (fun_mk (st := s_Span_is_past) l_Span_is_past c_Span_is_past k_Span_is_past).binds (ps := ["self", "time"]) fun _ _ _ _ _ _ us hl => match us, hl with | [_, _], _ => rfl,
    a_Span_is_ahead := f_Span_is_ahead,
    d_Span_is_ahead := _,
    F_Span_is_ahead := fun_mk (st := s_Span_is_ahead) l_Span_is_ahead c_Span_is_ahead k_Span_is_ahead,
    b_Span_is_ahead := (fun_mk (st := s_Span_is_ahead) l_Span_is_ahead c_Span_is_ahead k_Span_is_ahead).binds (ps := ["self", "time"]) fun _ _ _ _ _ _ us hl => match us, hl with | [_, _], _ => rfl,
    a_Span_is_before := f_Span_is_before,
    d_Span_is_before := _,
    F_Span_is_before := fun_mk (st := s_Span_is_before) l_Span_is_before c_Span_is_before k_Span_is_before,
    b_Span_is_before := (fun_mk (st := s_Span_is_before) l_Span_is_before c_Span_is_before k_Span_is_before).binds (ps := ["self", "other"]) fun _ _ _ _ _ _ us hl => match us, hl with | [_, _], _ => rfl,
    a_common_span := f_common_span,
    d_common_span := _,
    F_common_span := fun_mk (st := s_common_span) l_common_span c_common_span k_common_span,
    b_common_span := (fun_mk (st := s_common_span) l_common_span c_common_span k_common_span).binds (ps := ["spans"]) fun _ _ _ _ _ _ us hl => match us, hl with | [_], _ => rfl,
    g_common_span := PySem.W.mg_of X G a_common_span,
    a__law_cell := f__law_cell,
    d__law_cell := _,
    F__law_cell := fun_mk (st := s__law_cell) l__law_cell c__law_cell k__law_cell,
    b__law_cell := (fun_mk (st := s__law_cell) l__law_cell c__law_cell k__law_cell).binds (ps := ["script", "k"]) fun _ _ _ _ _ _ us hl => match us, hl with | [_, _], _ => rfl,
    g__law_cell := PySem.W.mg_of X G a__law_cell,
    a__law_is_int := f__law_is_int,
    d__law_is_int := _,
    F__law_is_int := fun_mk (st := s__law_is_int) l__law_is_int c__law_is_int k__law_is_int,
    b__law_is_int := (fun_mk (st := s__law_is_int) l__law_is_int c__law_is_int k__law_is_int).binds (ps := ["thing"]) fun _ _ _ _ _ _ us hl => match us, hl with | [_], _ => rfl,
    g__law_is_int := PySem.W.mg_of X G a__law_is_int,
    a__law_number := f__law_number,
    d__law_number := _,
    F__law_number := fun_mk (st := s__law_number) l__law_number c__law_number k__law_number,
    b__law_number := (fun_mk (st := s__law_number) l__law_number c__law_number k__law_number).binds (ps := ["cell"]) fun _ _ _ _ _ _ us hl => match us, hl with | [_], _ => rfl,
    g__law_number := PySem.W.mg_of X G a__law_number,
    a__law_same := f__law_same,
    d__law_same := _,
    F__law_same := fun_mk (st := s__law_same) l__law_same c__law_same k__law_same,
    b__law_same := (fun_mk (st := s__law_same) l__law_same c__law_same k__law_same).binds (ps := ["actual", "due"]) fun _ _ _ _ _ _ us hl => match us, hl with | [_, _], _ => rfl,
    g__law_same := PySem.W.mg_of X G a__law_same,
    a__law_refused := f__law_refused,
    d__law_refused := _,
    F__law_refused := fun_mk (st := s__law_refused) l__law_refused c__law_refused k__law_refused,
    b__law_refused := (fun_mk (st := s__law_refused) l__law_refused c__law_refused k__law_refused).binds (ps := ["low", "high"]) fun _ _ _ _ _ _ us hl => match us, hl with | [_, _], _ => rfl,
    g__law_refused := PySem.W.mg_of X G a__law_refused,
    a__law_none := f__law_none,
    d__law_none := _,
    F__law_none := fun_mk (st := s__law_none) l__law_none c__law_none k__law_none,
    b__law_none := (fun_mk (st := s__law_none) l__law_none c__law_none k__law_none).binds (ps := []) fun _ _ _ _ _ _ us hl => match us, hl with | [], _ => rfl,
    g__law_none := PySem.W.mg_of X G a__law_none,
    a__law_ends := f__law_ends,
    d__law_ends := _,
    F__law_ends := fun_mk (st := s__law_ends) l__law_ends c__law_ends k__law_ends,
    b__law_ends := (fun_mk (st := s__law_ends) l__law_ends c__law_ends k__law_ends).binds (ps := ["cell", "other"]) fun _ _ _ _ _ _ us hl => match us, hl with | [_, _], _ => rfl,
    g__law_ends := PySem.W.mg_of X G a__law_ends,
    a__law_answers := f__law_answers,
    d__law_answers := _,
    F__law_answers := fun_mk (st := s__law_answers) l__law_answers c__law_answers k__law_answers,
    b__law_answers := (fun_mk (st := s__law_answers) l__law_answers c__law_answers k__law_answers).binds (ps := ["span", "low", "high", "time"]) fun _ _ _ _ _ _ us hl => match us, hl with | [_, _, _, _], _ => rfl,
    g__law_answers := PySem.W.mg_of X G a__law_answers,
    a_law := f_law,
    d_law := _,
    F_law := fun_mk (st := s_law) l_law c_law k_law,
    b_law := (fun_mk (st := s_law) l_law c_law k_law).binds (ps := ["script"]) fun _ _ _ _ _ _ us hl => match us, hl with | [_], _ => rfl,
    e_MeridianError := ⟨PySem.W.mg_of X G mg_MeridianError, x_MeridianError, kc_MeridianError, bp_MeridianError, tp_MeridianError, ip_MeridianError, ⟨ga_MeridianError, gt_MeridianError, bp_MeridianError, hd_MeridianError, ca_MeridianError, cn, ct, mo_MeridianError⟩, kit_ty_sub ve_MeridianError (by decide +kernel)⟩,
    u_MeridianError_MeridianError := PySem.W.exm_ref bp_MeridianError hd_MeridianError tp_MeridianError u_MeridianError_MeridianError,
    q_MeridianError_MeridianError := kit_own u_MeridianError_MeridianError u_MeridianError_MeridianError ip_MeridianError tp_MeridianError,
    u_MeridianError_BadArgument := PySem.W.exm_ref bp_BadArgument hd_BadArgument tp_BadArgument u_MeridianError_BadArgument,
    q_MeridianError_BadArgument := kit_own u_MeridianError_BadArgument u_MeridianError_MeridianError ip_BadArgument tp_BadArgument,
    e_BadArgument := ⟨PySem.W.mg_of X G mg_BadArgument, x_BadArgument, kc_BadArgument, bp_BadArgument, tp_BadArgument, ip_BadArgument, ⟨ga_BadArgument, gt_BadArgument, bp_BadArgument, hd_BadArgument, ca_BadArgument, cn, ct, mo_BadArgument⟩, kit_ty_sub ve_BadArgument (by decide +kernel)⟩,
    u_BadArgument_MeridianError := PySem.W.exm_ref bp_MeridianError hd_MeridianError tp_MeridianError u_BadArgument_MeridianError,
    q_BadArgument_MeridianError := kit_own u_BadArgument_MeridianError u_BadArgument_BadArgument ip_MeridianError tp_MeridianError,
    u_BadArgument_BadArgument := PySem.W.exm_ref bp_BadArgument hd_BadArgument tp_BadArgument u_BadArgument_BadArgument,
    q_BadArgument_BadArgument := kit_own u_BadArgument_BadArgument u_BadArgument_BadArgument ip_BadArgument tp_BadArgument,
    k_Span := ⟨⟨pg_Span, hd_Span, po_Span, sa_Span⟩, PySem.W.mg_of X G mg_Span, ca_Span, cn, ct, mo_Span⟩,
    n_Span_low := na_Span_low,
    n_Span_high := na_Span_high,
    M_Span := ⟨mk_Span, a_Span_init, i_Span_init, kc_Span⟩,
    m_Span_contains := ⟨a_Span_contains, i_Span_contains, k_Span_contains⟩,
    m_Span_is_past := ⟨a_Span_is_past, i_Span_is_past, k_Span_is_past⟩,
    m_Span_is_ahead := ⟨a_Span_is_ahead, i_Span_is_ahead, k_Span_is_ahead⟩,
    m_Span_is_before := ⟨a_Span_is_before, i_Span_is_before, k_Span_is_before⟩,
    z_max := PySem.W.mg_none_of X G z_max,
    z_min := PySem.W.mg_none_of X G z_min,
    z_len := PySem.W.mg_none_of X G z_len,
    z_abs := PySem.W.mg_none_of X G z_abs,
    z_int := PySem.W.mg_none_of X G z_int,
    z_isinstance := PySem.W.mg_none_of X G z_isinstance,
    z_bool := PySem.W.mg_none_of X G z_bool,
    z_range := PySem.W.mg_none_of X G z_range,
    z_list := PySem.W.mg_none_of X G z_list }
  exact ⟨PySem.W.fnOf "law" "law" (defArgs s_law) (defBody s_law) (defScope s_law) .none kV_law dc_law pm_law an_law cd_law ct_law, fun s v => .of_eq rfl, fun base _ _ => ok_law T⟩
theorem walk {l : PySem.W.OpenLaw} {q : Program} {loose : List Str} {XP : (Str → Option Value) → Heap → Prop} {YP : World → Heap → Prop} {d : DefRec} {K : Params → PySem.W.Frag} (hn : l.most = some 63) (hdf : d.params.defaults = [])
    (hY : ∀ (w : World) (h : Heap), YP w h → (K w.params).In h)
    (F : ∀ (w : World) (mg : Str → Option Value) (fa : Addr) (h : Heap), (K w.params).In h → h.Ns mainGlobals mg → mg d.name = some (.ref fa) →
      ∃ fd : FuncData, (∀ (s : Shared) (u : Value), BindsTo s fd ⟨[u], []⟩ [("script", u)]) ∧ ∀ base : Heap, (K w.params).In base → base.Ns mainGlobals mg → FnOk l.prog w (K w.params) mg base CX0 5 fa fd ["script"] (spLaw (K w.params))) :
    PySem.W.WalkO q loose XP YP l.row.toRowW d [] (fun f vs => PySem.call f vs) :=
  L2.walk_of (n := 63) (k := 5) (x := "script") (CX := fun _ => CX0) (sp := fun w => spLaw (K w.params)) hn (by decide) hdf ⟨rfl, by decide, by decide⟩ hY F (fun _ _ a ns hl _ hS => ⟨a, ns, rfl, hS, hl, fun _ => rfl⟩) fun _ _ _ _ _ z => z
end Dv
open PySem PySem.W PyProof.Rows in
set_option maxRecDepth 100000 in
set_option maxHeartbeats 0 in
theorem PySem.Challenge.cw_meridian_k06_spans_holds : PySem.Challenge.rw_meridian_k06_spans.Holds := by
  w_on; o_law; k_head; (case hw => w_witness2)
  k_fill
  refine Dv.walk (l := PySem.Challenge.rw_meridian_k06_spans) rfl rfl (fun w h Y => PySem.W.kIn_of Y) ?F
  case F =>
    intro w mg fa h KX G hmg
    refine' Dv.all_mk KX G hmg ?mg_MeridianError ?x_MeridianError ?kc_MeridianError ?bp_MeridianError ?tp_MeridianError ?ip_MeridianError ?ga_MeridianError ?gt_MeridianError ?hd_MeridianError ?ca_MeridianError ?mo_MeridianError ?ve_MeridianError ?u_MeridianError_MeridianError ?u_MeridianError_BadArgument ?mg_BadArgument ?x_BadArgument ?kc_BadArgument ?bp_BadArgument ?tp_BadArgument ?ip_BadArgument ?ga_BadArgument ?gt_BadArgument ?hd_BadArgument ?ca_BadArgument ?mo_BadArgument ?ve_BadArgument ?u_BadArgument_MeridianError ?u_BadArgument_BadArgument ?cn ?ct ?mg_Span ?pg_Span ?hd_Span ?po_Span ?sa_Span ?mk_Span ?kc_Span ?ca_Span ?mo_Span ?na_Span_low ?na_Span_high ?a_Span_init ?i_Span_init ?l_Span_init ?c_Span_init ?k_Span_init ?a_Span_contains ?i_Span_contains ?l_Span_contains ?c_Span_contains ?k_Span_contains ?a_Span_is_past ?i_Span_is_past ?l_Span_is_past ?c_Span_is_past ?k_Span_is_past ?a_Span_is_ahead ?i_Span_is_ahead ?l_Span_is_ahead ?c_Span_is_ahead ?k_Span_is_ahead ?a_Span_is_before ?i_Span_is_before ?l_Span_is_before ?c_Span_is_before ?k_Span_is_before ?a_common_span ?l_common_span ?c_common_span ?k_common_span ?a__law_cell ?l__law_cell ?c__law_cell ?k__law_cell ?a__law_is_int ?l__law_is_int ?c__law_is_int ?k__law_is_int ?a__law_number ?l__law_number ?c__law_number ?k__law_number ?a__law_same ?l__law_same ?c__law_same ?k__law_same ?a__law_refused ?l__law_refused ?c__law_refused ?k__law_refused ?a__law_none ?l__law_none ?c__law_none ?k__law_none ?a__law_ends ?l__law_ends ?c__law_ends ?k__law_ends ?a__law_answers ?l__law_answers ?c__law_answers ?k__law_answers ?a_law ?l_law ?c_law ?k_law ?z_max ?z_min ?z_len ?z_abs ?z_int ?z_isinstance ?z_bool ?z_range ?z_list
    (case mg_MeridianError => k_is)
    (case mg_BadArgument => k_is)
    (case mg_Span => k_is)
    (case a_Span_init => k_is)
    (case a_Span_contains => k_is)
    (case a_Span_is_past => k_is)
    (case a_Span_is_ahead => k_is)
    (case a_Span_is_before => k_is)
    (case a_common_span => k_is)
    (case a__law_cell => k_is)
    (case a__law_is_int => k_is)
    (case a__law_number => k_is)
    (case a__law_same => k_is)
    (case a__law_refused => k_is)
    (case a__law_none => k_is)
    (case a__law_ends => k_is)
    (case a__law_answers => k_is)
    (case a_law => k_is)
    (case x_MeridianError => k_exc)
    (case kc_MeridianError => k_is)
    (case bp_MeridianError => k_is)
    (case tp_MeridianError => k_is)
    (case ip_MeridianError => k_is)
    (case ga_MeridianError => k_is)
    (case gt_MeridianError => k_is)
    (case hd_MeridianError => k_is)
    (case ca_MeridianError => k_is)
    (case mo_MeridianError => k_is)
    (case ve_MeridianError => k_is)
    (case u_MeridianError_MeridianError => k_is)
    (case u_MeridianError_BadArgument => k_is)
    (case x_BadArgument => k_exc)
    (case kc_BadArgument => k_is)
    (case bp_BadArgument => k_is)
    (case tp_BadArgument => k_is)
    (case ip_BadArgument => k_is)
    (case ga_BadArgument => k_is)
    (case gt_BadArgument => k_is)
    (case hd_BadArgument => k_is)
    (case ca_BadArgument => k_is)
    (case mo_BadArgument => k_is)
    (case ve_BadArgument => k_is)
    (case u_BadArgument_MeridianError => k_is)
    (case u_BadArgument_BadArgument => k_is)
    (case cn => k_is)
    (case ct => k_is)
    (case pg_Span => k_is)
    (case hd_Span => k_is)
    (case po_Span => k_is)
    (case sa_Span => k_is)
    (case mk_Span => k_is)
    (case kc_Span => k_is)
    (case ca_Span => k_is)
    (case mo_Span => k_is)
    (case na_Span_low => k_is)
    (case na_Span_high => k_is)
    (case i_Span_init => k_is)
    (case l_Span_init => k_is)
    (case c_Span_init => k_is)
    (case k_Span_init => k_is)
    (case i_Span_contains => k_is)
    (case l_Span_contains => k_is)
    (case c_Span_contains => k_is)
    (case k_Span_contains => k_is)
    (case i_Span_is_past => k_is)
    (case l_Span_is_past => k_is)
    (case c_Span_is_past => k_is)
    (case k_Span_is_past => k_is)
    (case i_Span_is_ahead => k_is)
    (case l_Span_is_ahead => k_is)
    (case c_Span_is_ahead => k_is)
    (case k_Span_is_ahead => k_is)
    (case i_Span_is_before => k_is)
    (case l_Span_is_before => k_is)
    (case c_Span_is_before => k_is)
    (case k_Span_is_before => k_is)
    (case l_common_span => k_is)
    (case c_common_span => k_is)
    (case k_common_span => k_is)
    (case l__law_cell => k_is)
    (case c__law_cell => k_is)
    (case k__law_cell => k_is)
    (case l__law_is_int => k_is)
    (case c__law_is_int => k_is)
    (case k__law_is_int => k_is)
    (case l__law_number => k_is)
    (case c__law_number => k_is)
    (case k__law_number => k_is)
    (case l__law_same => k_is)
    (case c__law_same => k_is)
    (case k__law_same => k_is)
    (case l__law_refused => k_is)
    (case c__law_refused => k_is)
    (case k__law_refused => k_is)
    (case l__law_none => k_is)
    (case c__law_none => k_is)
    (case k__law_none => k_is)
    (case l__law_ends => k_is)
    (case c__law_ends => k_is)
    (case k__law_ends => k_is)
    (case l__law_answers => k_is)
    (case c__law_answers => k_is)
    (case k__law_answers => k_is)
    (case l_law => k_is)
    (case c_law => k_is)
    (case k_law => k_is)
    (case z_max => k_is)
    (case z_min => k_is)
    (case z_len => k_is)
    (case z_abs => k_is)
    (case z_int => k_is)
    (case z_isinstance => k_is)
    (case z_bool => k_is)
    (case z_range => k_is)
    (case z_list => k_is)
