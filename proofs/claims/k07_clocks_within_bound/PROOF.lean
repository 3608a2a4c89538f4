import PyProof.Rows.All
import Wide.All
import OpenK.AllK
import Wide.FinOn
import HandS.ForExc
import HandS.ForMost
import HandS.IsInst
import HandS.ExcIs
import HandS.Wide
import HandS.CallSlots
import HandS.Property
import HandS.Defaults
import HandS.MakeKwOnly
import HandS.TupAny
import HandS.LawCells
import PySem.Challenge.RW_meridian_k07_clocks_within_bound
set_option Elab.async false
set_option linter.all false
set_option maxRecDepth 100000
set_option maxHeartbeats 4000000
namespace Dv
open PySem PySem.Spec PyProof.Rows L2
def top (i : Nat) : Stmt := PySem.Challenge.pw_meridian_k07_clocks_within_bound.main.body.getD i (.Pass ⟨0, 0, 0, 0⟩)
abbrev s_Span_init : Stmt := (inClass (top 5) 0)
theorem sc_Span_init : FnScope ["self", "low", "high"] ["self", "low", "high"] (defScope s_Span_init) := ⟨rfl, rfl, rfl, by decide +kernel, rfl, by decide +kernel, by decide +kernel⟩
abbrev s_Span_contains : Stmt := (inClass (top 5) 1)
theorem sc_Span_contains : FnScope ["self", "time"] ["self", "time"] (defScope s_Span_contains) := ⟨rfl, rfl, rfl, by decide +kernel, rfl, by decide +kernel, by decide +kernel⟩
abbrev s_Span_is_past : Stmt := (inClass (top 5) 2)
theorem sc_Span_is_past : FnScope ["self", "time"] ["self", "time"] (defScope s_Span_is_past) := ⟨rfl, rfl, rfl, by decide +kernel, rfl, by decide +kernel, by decide +kernel⟩
abbrev s_Clock_init : Stmt := (inClass (top 7) 0)
theorem sc_Clock_init : FnScope ["self", "bound"] ["self", "bound"] (defScope s_Clock_init) := ⟨rfl, rfl, rfl, by decide +kernel, rfl, by decide +kernel, by decide +kernel⟩
abbrev s_Clock_drift : Stmt := (inClass (top 7) 1)
theorem sc_Clock_drift : FnScope ["self", "offset"] ["self", "offset"] (defScope s_Clock_drift) := ⟨rfl, rfl, rfl, by decide +kernel, rfl, by decide +kernel, by decide +kernel⟩
abbrev s_Clock_span : Stmt := (inClass (top 7) 2)
theorem sc_Clock_span : FnScope ["self", "now", "shown"] ["self", "now"] (defScope s_Clock_span) := ⟨rfl, rfl, rfl, by decide +kernel, rfl, by decide +kernel, by decide +kernel⟩
abbrev s_Clock_wait_for : Stmt := (inClass (top 7) 3)
theorem sc_Clock_wait_for : FnScope ["self", "time", "now", "low"] ["self", "time", "now"] (defScope s_Clock_wait_for) := ⟨rfl, rfl, rfl, by decide +kernel, rfl, by decide +kernel, by decide +kernel⟩
abbrev s__check_true_time : Stmt := (top 8)
theorem sc__check_true_time : FnScope ["now"] ["now"] (defScope s__check_true_time) := ⟨rfl, rfl, rfl, by decide +kernel, rfl, by decide +kernel, by decide +kernel⟩
abbrev s__law_cell : Stmt := (top 10)
theorem sc__law_cell : FnScope ["script", "k"] ["script", "k"] (defScope s__law_cell) := ⟨rfl, rfl, rfl, by decide +kernel, rfl, by decide +kernel, by decide +kernel⟩
abbrev s__law_is_int : Stmt := (top 11)
theorem sc__law_is_int : FnScope ["thing"] ["thing"] (defScope s__law_is_int) := ⟨rfl, rfl, rfl, by decide +kernel, rfl, by decide +kernel, by decide +kernel⟩
abbrev s__law_number : Stmt := (top 12)
theorem sc__law_number : FnScope ["cell"] ["cell"] (defScope s__law_number) := ⟨rfl, rfl, rfl, by decide +kernel, rfl, by decide +kernel, by decide +kernel⟩
abbrev s__law_refused : Stmt := (top 13)
theorem sc__law_refused : FnScope ["clock", "which", "number"] ["clock", "which", "number"] (defScope s__law_refused) := ⟨rfl, rfl, rfl, by decide +kernel, rfl, by decide +kernel, by decide +kernel⟩
abbrev s__law_shows : Stmt := (top 14)
theorem sc__law_shows : FnScope ["clock", "limit", "shift", "true", "span"] ["clock", "limit", "shift", "true"] (defScope s__law_shows) := ⟨rfl, rfl, rfl, by decide +kernel, rfl, by decide +kernel, by decide +kernel⟩
abbrev s_law : Stmt := (top 15)
theorem sc_law : FnScope ["script", "limit", "clock", "k", "cell", "shift", "true", "time", "wait"] ["script"] (defScope s_law) := ⟨rfl, rfl, rfl, by decide +kernel, rfl, by decide +kernel, by decide +kernel⟩
theorem kit_own {K : PySem.W.Frag} {C E : Addr} {b : Bool} (h : PySem.W.subIn K (.ref C) (.ref E) = some b) (hs : PySem.W.subIn K (.ref C) (.ref C) = some true) (hc : PySem.W.isClsIn K E = true) (ht : PySem.W.typeIn K (.ref E) = some (.type "type")) :
    PySem.W.kitOne K (.ref C) (.ref E) = some b := by
  unfold PySem.W.kitOne
  by_cases e : (Value.ref C == Value.ref E) = true
  · rw [if_pos e]
    have e' : Value.ref C = Value.ref E := by simpa using e
    rw [← e', hs] at h
    exact h
  · rw [if_neg e]
    show (if ((PySem.W.clsIn K E).isSome && PySem.W.typeIn K (.ref E) == some (.type "type")) = true then PySem.W.subIn K (.ref C) (.ref E) else none) = some b
    have hc' : (PySem.W.clsIn K E).isSome = true := hc
    rw [hc', ht, if_pos (by rfl)]
    exact h
theorem kit_ty_sub {K : PySem.W.Frag} {C : Addr} {T : String} {b : Bool} (h : PySem.W.subIn K (.ref C) (.type T) = some b) (hm : PySem.W.kitMeta T = true) : PySem.W.kitOne K (.ref C) (.type T) = some b := by
  unfold PySem.W.kitOne
  rw [if_neg (by simp)]
  show (if PySem.W.kitMeta T = true then PySem.W.subIn K (.ref C) (.type T) else none) = some b
  rw [if_pos hm]
  exact h
/-- isinstance(e, c), isinstance(e, (c1, ..)): e the exception that the suite holds, of whatever class -/
def rIsG (K : PySem.W.Frag) (cls : Value) (d : Option Addr) (a : Addr) : List V → Hp → VK → Prop := fun xs H Q => ∃ (D : Addr) (b : Bool), cls = .ref D ∧ d = none ∧ ExcC K D ∧
  ((∃ (c : V) (cv : Value), xs = [.ref a, c] ∧ ClsV c cv ∧ PySem.W.kitOne K (.ref D) cv = some b ∧ Q (.bl b) H) ∨
   ∃ (tp : Addr) (cs : List V) (us : List Value), xs = [.ref a, .ref tp] ∧ H tp = some (.tup cs) ∧ Paired ClsV cs us ∧ PySem.W.kitAny K (.ref D) us = some b ∧ Q (.bl b) H)
theorem call_isG {X : Cx} {a : Addr} {cls : Value} {d : Option Addr} {oe : Obj} {pn : List (Addr × Obj)} (hz : Zc cls d oe) (hf : ∃ vs, oe.data = .fields vs) : CallR (X.suite a ((a, oe) :: pn)) (.builtin "isinstance") (rIsG X.K cls d a) := by
  intro pins s σ H xs us Q I r h
  obtain ⟨D, b, rfl, rfl, C, h⟩ := h
  rcases h with ⟨c, cv, rfl, hcv, e, q⟩ | ⟨tp, cs, ws, rfl, hT, k, e, q⟩
  · exact call_isE C hz hf pins s σ H _ us Q I r ⟨c, cv, b, rfl, fun u ru => hcv.eq ru, e, q⟩
  · obtain ⟨u1, u2, rfl, r1, r2⟩ := vals2 r
    cases (show u2 = Value.ref tp from r2)
    cases (show u1 = Value.ref a from r1)
    obtain ⟨hget, _⟩ := I.pin (a, oe) (List.mem_append.mpr (.inl List.mem_cons_self))
    obtain ⟨vs, hv⟩ := hf
    have J : PySem.W.InstAt s.heap a oe D none := by
      obtain ⟨oc, od, oda, osl⟩ := oe
      obtain ⟨h1, h2⟩ := hz
      dsimp only at h1 h2 hv
      subst h1 h2 hv
      exact ⟨hget, rfl, rfl, trivial⟩
    obtain ⟨_, its, rv, o, h1, h2, n, h3⟩ := (show ObjOk X.prog X.w H s.heap tp (.tup cs) from I.hok tp _ hT)
    have e3 := ClsV.all k rv
    subst e3
    obtain ⟨oc, od, dt, sl⟩ := o
    simp only at h2 h3
    subst h2 h3
    exact PySem.W.kia_tup (PySem.W.handS_kitx_exc C.hg C.hk C.hs C.hd C.ha C.hn C.ht C.hm) I.kIn J h1 e (fun z => nomatch z) fun tk => ⟨.bl b, H, I.kept (t' := tk) fun _ _ z => z, rfl, q⟩
/-- the room that == of data wants -/
theorem hu64_of {A : Around} {k : Nat} (hr : Room k A) : A.units + 64 < cLine := Nat.lt_of_le_of_lt (Nat.le_refl _) hr.units
theorem same_new {H : Hp} {p : Addr} {o : HO} (h : H p = none) : Same H (upd H p o) := fun b x e => by
  rw [upd_ne (ne_of_none e h)]
  exact e
/-- an object unknown before may change -/
theorem same_mut {H H1 : Hp} {p : Addr} {o : HO} (s : Same H H1) (h : H p = none) : Same H (upd H1 p o) := fun b x e => by
  rw [upd_ne (ne_of_none e h)]
  exact s b x e
theorem sql_new {K : PySem.W.Frag} {H : Hp} {p : Addr} {xs : List V} : SqL K (upd H p (.lst xs)) p xs := SqL.of upd_same
theorem same_dp {K : PySem.W.Frag} {H H' : Hp} (s : Same H H') : ∀ (d : PyData) (v : V), Dp K H v d → Dp K H' v d := by
  intro d v h
  exact Dp.rec (motive_1 := fun v d _ => Dp K H' v d) (motive_2 := fun vs ds _ => DpAll K H' vs ds) .non (fun b => .bl b) (fun i => .int i) (fun x => .str x)
    (fun h1 _ ih => .lst (s.seq h1) ih) (fun h1 _ ih => .tup (by rcases h1 with h1 | h1
                                                                 · rcases h1 with h1 | ⟨o, h1⟩
                                                                   · exact .inl (.inl (s _ _ h1))
                                                                   · exact .inl (.inr ⟨o, s _ _ h1⟩)
                                                                 · exact .inr h1) ih) .nil (fun _ _ h1 h2 => .cons h1 h2) h
/-! lists of ints as data -/
def dInts (ns : List Int) : PyData := .list (ns.map PyData.int)
theorem dp_all_ints {K : PySem.W.Frag} {H : Hp} : ∀ ns : List Int, DpAll K H (ns.map V.int) (ns.map PyData.int)
  | [] => .nil
  | n :: r => .cons (.int n) (dp_all_ints r)
theorem dp_ints {K : PySem.W.Frag} {H : Hp} {a : Addr} {ns : List Int} (h : SqL K H a (ns.map V.int)) : Dp K H (.ref a) (dInts ns) := .lst h (dp_all_ints ns)
theorem eqv_ints : ∀ ns ms : List Int, PyData.eqvAll (ns.map PyData.int) (ms.map PyData.int) = decide (ns = ms)
  | [], [] => rfl
  | [], _ :: _ => rfl
  | _ :: _, [] => rfl
  | n :: r, m :: t => by
    show (PyData.eqv (.int n) (.int m) && PyData.eqvAll (r.map PyData.int) (t.map PyData.int)) = _
    rw [eqv_ints r t]
    show ((n == m) && decide (r = t)) = _
    by_cases h : n = m <;> by_cases h2 : r = t <;> simp [h, h2]
theorem eqv_dInts (ns ms : List Int) : PyData.eqv (dInts ns) (dInts ms) = decide (ns = ms) := eqv_ints ns ms
theorem canLay_ints : ∀ ns : List Int, (PyData.list (ns.map PyData.int)).canLay0 = true → True := fun _ _ => trivial
theorem ifT {c : Bool} {A B : Prop} (hc : c = true) (h : A) : if c = true then A else B := by
  rw [if_pos hc]
  exact h
theorem ifF {c : Bool} {A B : Prop} (hc : c = false) (h : B) : if c = true then A else B := by
  rw [hc, if_neg Bool.false_ne_true]
  exact h
/-- both ways of an if over a decided comparison -/
theorem iteD {p : Prop} [Decidable p] {A B : Prop} (h1 : p → A) (h2 : ¬ p → B) : if decide p = true then A else B := by
  by_cases h : p
  · rw [if_pos (decide_eq_true h)]
    exact h1 h
  · rw [if_neg (by simpa using h)]
    exact h2 h
theorem iteN {p : Prop} [Decidable p] {A B : Prop} (h1 : ¬ p → A) (h2 : p → B) : if (!decide p) = true then A else B := by
  by_cases h : p
  · rw [if_neg (by simpa using h)]
    exact h2 h
  · rw [if_pos (by simpa using h)]
    exact h1 h
theorem yes_if {σ : L2.St} {H : Hp} {A B : Hp → Prop} (h : A H) : tYes σ H (fun b H3 => if b = true then A H3 else B H3) := by
  show (if true = true then A H else B H)
  rw [if_pos rfl]
  exact h
abbrev Li (H : Hp) (p : Addr) (ns : List Int) : Prop := H p = some (.lst (ns.map V.int))
theorem szl {n : Nat} (h : n ≤ 1000000) : n < sizeLine := Nat.lt_of_le_of_lt h (by decide)
theorem szle {n : Nat} (h : n ≤ 1000000) : n ≤ sizeLine := Nat.le_of_lt (szl h)
theorem mem_int {ns : List Int} {i : Nat} {x : V} (hx : (ns.map V.int)[i]? = some x) : ∃ n, ns[i]? = some n ∧ x = V.int n := by
  rw [List.getElem?_map] at hx
  cases e : ns[i]? with
  | none => rw [e] at hx; cases hx
  | some u => rw [e] at hx; exact ⟨u, rfl, (Option.some.inj hx).symm⟩
theorem li_push {H : Hp} {p : Addr} {ns : List Int} {n : Int} : Li (upd H p (.lst (ns.map V.int ++ [V.int n]))) p (ns ++ [n]) := by
  show upd _ _ _ _ = _
  rw [upd_same, List.map_append]
  rfl
theorem take_succ {α : Type} {l : List α} {i : Nat} {x : α} (h : l[i]? = some x) : l.take (i + 1) = l.take i ++ [x] := by
  rw [List.take_add_one, h]
  rfl
/-! slices of lists -/
theorem cutV_map {α : Type} (f : α → V) (xs : List α) (lo hi : Option Int) : cutV (xs.map f) lo hi = ((xs.drop (HT.sIx xs.length 0 lo)).take (HT.sIx xs.length xs.length hi - HT.sIx xs.length 0 lo)).map f := by
  unfold cutV
  rw [List.length_map, List.map_take, List.map_drop]
theorem cut_to (xs : List V) (k : Nat) : cutV xs none (some (k : Int)) = xs.take k := by
  unfold cutV
  rw [HT.sIx_none, HT.sIx_nat, List.drop_zero, Nat.sub_zero]
  by_cases h : k ≤ xs.length
  · rw [Nat.min_eq_left h]
  · rw [Nat.min_eq_right (by omega), List.take_of_length_le (Nat.le_refl _), List.take_of_length_le (by omega)]
theorem cut_from (xs : List V) (k : Nat) : cutV xs (some (k : Int)) none = xs.drop k := by
  unfold cutV
  rw [HT.sIx_none, HT.sIx_nat]
  by_cases h : k ≤ xs.length
  · rw [Nat.min_eq_left h]
    exact List.take_of_length_le (by rw [List.length_drop]; exact Nat.le_refl _)
  · rw [Nat.min_eq_right (by omega), List.drop_of_length_le (by omega), List.take_nil, List.drop_of_length_le (by omega)]
theorem cut_fromto (xs : List V) (i j : Nat) : cutV xs (some (i : Int)) (some (j : Int)) = (xs.drop i).take (j - i) := by
  unfold cutV
  rw [HT.sIx_nat, HT.sIx_nat]
  by_cases h : i ≤ xs.length
  · rw [Nat.min_eq_left h]
    by_cases h2 : j ≤ xs.length
    · rw [Nat.min_eq_left h2]
    · rw [Nat.min_eq_right (by omega), List.take_of_length_le (by rw [List.length_drop]; exact Nat.le_refl _), List.take_of_length_le (by rw [List.length_drop]; omega)]
  · rw [show xs.drop (min i xs.length) = [] from List.drop_of_length_le (by omega), List.take_nil, List.drop_of_length_le (by omega), List.take_nil]
theorem sIx_neg (n d k : Nat) (h : 0 < k) : HT.sIx n d (some (-(k : Int))) = n - k := by
  show (if -(k : Int) < 0 then (-(k : Int) + (n : Int)).toNat else _) = _
  rw [if_pos (by omega)]
  omega
theorem cut_ton (xs : List V) (k : Nat) (h : 0 < k) : cutV xs none (some (-(k : Int))) = xs.take (xs.length - k) := by
  unfold cutV
  rw [HT.sIx_none, sIx_neg _ _ _ h, List.drop_zero, Nat.sub_zero]
theorem cut_fromn (xs : List V) (k : Nat) (h : 0 < k) : cutV xs (some (-(k : Int))) none = xs.drop (xs.length - k) := by
  unfold cutV
  rw [HT.sIx_none, sIx_neg _ _ _ h]
  exact List.take_of_length_le (by rw [List.length_drop]; exact Nat.le_refl _)

/-! own rules: methods and makings whose errors depend on the slots (for a try), keywords, an own __contains__ -/
section
variable {X : Cx} {CX : CXT} {k n : Nat} {C f : Addr} {fd : FuncData} {ps ks : List Str} {sp : Sp} {E : L2.St → XK} {dvs : List V} {ds : List Value} {o e : Expr} {es : List Expr} {kws : List Keyword} {m x : Str} {p apos pos : Pos} {ta : TE} {t tk : TA}
  {g : List Value → List Value → List Value} {gV : List V → List V → List V}
theorem run_at {pins : List (Addr × Obj)} {σ : L2.St} {H : Hp} {s : Shared} {Q : VK} {E : XK} {us0 us : List Value} {kw : List (Str × Value)} {vs : List V} (F : FnOk X.prog X.w X.K X.mg X.base CX k f fd ps sp) (hr : Room k X.A) (hx : PassesAt CX X σ E)
    (I : Inv X pins σ H s) (hb : BindsTo s fd ⟨us0, kw⟩ (ps.zip us)) (r : Vals vs us) (h : sp vs H Q E) : wpAny (model X.prog X.w) X.A (call (.ref f) us0 kw) (EP X pins σ Q) X.xe s := by
  refine wpAny_call (codeAny_mono (F.run X.A X.stack s H ⟨us0, kw⟩ us vs Q E hr I.env0 hb r h) fun r s' hq => ?_)
  cases r with
  | error er => exact hx pins H s er s' I hq
  | ok fl => cases fl with
    | ret u => exact I.after hq
    | next => exact hq.elim
    | brk => exact hq.elim
    | cont => exact hq.elim
/-- o.m(e, .., k = v, ..) -/
def tMA (C : Addr) (m : Str) (n l : Nat) (sp : Sp) (gV : List V → List V → List V) (E : L2.St → XK) (ta : TE) (t tk : TA) : TE := fun σ H Q => ta σ H fun x H1 => ∃ a dx fs, x = .ref a ∧ H1 a = some (.ins C dx fs) ∧ fs.lookup m = none ∧
  t σ H1 fun vs H2 => tk σ H2 fun zs H3 => vs.length = n ∧ zs.length = l ∧ sp (gV (x :: vs) zs) H3 Q (E σ)
theorem pe_mK {pl : Sem Bool} (he : PE X o ta) (c : Cls X.K C) (hm : Meth X.K C m f) (F : FnOk X.prog X.w X.K X.mg X.base CX k f fd ps sp) (hr : Room k X.A) (hb : KBn X.K fd ps (n + 1) ks g gV) (hx : ∀ σ, PassesAt CX X σ (E σ)) (ha : PA X (e :: es) t) (hkw : PK X kws tk)
    (hall : (backToKw pos (keywordEach kws X.env)).all (·.1.isSome) = true := by rfl) (hks : (backToKw pos (keywordEach kws X.env)).filterMap (·.1) = ks := by rfl)
    (hst : starEach (e :: es) X.env = (false, eval e X.env) :: starEach es X.env := by rfl) (hpl : ((backTo pos (starEach (e :: es) X.env)).any (·.1) || (backToKw pos (keywordEach kws X.env)).any (·.1.isNone)) = false := by rfl)
    (ht : eval (.Call (.Attribute o m apos) (e :: es) kws pos) X.env = (do
      let ov ← eval o X.env
      standAt apos.atName
      let (f, first) ← holding [ov] (getMethod ov m pl)
      callWith pos f first (backTo pos (starEach (e :: es) X.env)) (backToKw pos (keywordEach kws X.env))) := by rfl) :
    PE X (.Call (.Attribute o m apos) (e :: es) kws pos) (tMA C m n ks.length sp gV E ta t tk) := by
  refine ⟨fun pins s σ H Q I h => PySem.W.methodCall_KW (pl := pl) (thn (he.run pins s σ H _ I h) fun u s1 ⟨x, H1, I1, rx, a, dx, fs, ex, ea, l, q⟩ => ?_) ht⟩
  subst ex
  obtain rfl : u = Value.ref a := rx
  refine getmeth_ok I1 ea c hm l (PySem.W.callWith_KW (first := [.ref a]) (h₀ := X.base) I.ok.mod.kin hm.kp hall (thn (ha.run pos pins s1 σ H1 _ I1 q) fun us s2 ⟨vs, H2, I2, r, q2⟩ => ?_) hpl hst)
  refine thn (hkw.run pos pins s2 σ H2 _ I2 q2) fun ws s3 ⟨zs, H3, I3, rz, l1, l2, q3⟩ => ⟨I3.kIn, ?_⟩
  rw [hks]
  have r1 : Vals (V.ref a :: vs) (Value.ref a :: us) := .cons rfl r
  exact run_at F hr (hx σ) I3 (hb.to s3 (Value.ref a :: us) ws I3.kIn (by rw [List.length_cons, ← r.length, l1]) (rz.length.symm.trans l2)) (hb.rel r1 rz) q3
theorem pe_mK0 {pl : Sem Bool} (he : PE X o ta) (c : Cls X.K C) (hm : Meth X.K C m f) (F : FnOk X.prog X.w X.K X.mg X.base CX k f fd ps sp) (hr : Room k X.A) (hb : KBn X.K fd ps 1 ks g gV) (hx : ∀ σ, PassesAt CX X σ (E σ)) (hkw : PK X kws tk)
    (hall : (backToKw pos (keywordEach kws X.env)).all (·.1.isSome) = true := by rfl) (hks : (backToKw pos (keywordEach kws X.env)).filterMap (·.1) = ks := by rfl)
    (hpl : ((backTo pos (starEach [] X.env)).any (·.1) || (backToKw pos (keywordEach kws X.env)).any (·.1.isNone)) = false := by rfl)
    (ht : eval (.Call (.Attribute o m apos) [] kws pos) X.env = (do
      let ov ← eval o X.env
      standAt apos.atName
      let (f, first) ← holding [ov] (getMethod ov m pl)
      callWith pos f first (backTo pos (starEach [] X.env)) (backToKw pos (keywordEach kws X.env))) := by rfl) :
    PE X (.Call (.Attribute o m apos) [] kws pos) (tMA C m 0 ks.length sp gV E ta tNil tk) := by
  refine ⟨fun pins s σ H Q I h => PySem.W.methodCall_KW (pl := pl) (thn (he.run pins s σ H _ I h) fun u s1 ⟨x, H1, I1, rx, a, dx, fs, ex, ea, l, q⟩ => ?_) ht⟩
  subst ex
  obtain rfl : u = Value.ref a := rx
  refine getmeth_ok I1 ea c hm l (PySem.W.callWith_KW0 (first := [.ref a]) (h₀ := X.base) I.ok.mod.kin hm.kp hall (thn (hkw.run pos pins s1 σ H1 _ I1 q) fun ws s3 ⟨zs, H3, I3, rz, l1, l2, q3⟩ => ⟨I3.kIn, ?_⟩) hpl)
  rw [hks]
  have r1 : Vals ([V.ref a]) ([Value.ref a]) := .cons rfl .nil
  exact run_at F hr (hx σ) I3 (hb.to s3 [Value.ref a] ws I3.kIn rfl (rz.length.symm.trans l2)) (hb.rel r1 rz) q3
/-- o.m(e, ..), the wish of errors by the slots -/
def tMS (C : Addr) (m : Str) (sp : Sp) (dvs : List V) (E : L2.St → XK) (ta : TE) (t : TA) : TE := fun σ H Q => ta σ H fun x H1 => ∃ a dx fs, x = .ref a ∧ H1 a = some (.ins C dx fs) ∧ fs.lookup m = none ∧ t σ H1 fun vs H2 => sp (x :: (vs ++ dvs)) H2 Q (E σ)
theorem pe_mS {pl : Sem Bool} (he : PE X o ta) (c : Cls X.K C) (hm : Meth X.K C m f) (F : FnOk X.prog X.w X.K X.mg X.base CX k f fd ps sp) (hr : Room k X.A) (hb : Binds X.K fd ps ds) (hd : Vals dvs ds) (hx : ∀ σ, PassesAt CX X σ (E σ)) (ha : PA X (e :: es) t)
    (hst : starEach (e :: es) X.env = (false, eval e X.env) :: starEach es X.env := by rfl) (hpl : (backTo pos (starEach es X.env)).any (·.1) = false := by rfl)
    (ht : eval (.Call (.Attribute o m apos) (e :: es) [] pos) X.env = (do
      let ov ← eval o X.env
      standAt apos.atName
      let (f, first) ← holding [ov] (getMethod ov m pl)
      callWith pos f first (backTo pos (starEach (e :: es) X.env)) (backToKw pos (keywordEach [] X.env))) := by rfl) :
    PE X (.Call (.Attribute o m apos) (e :: es) [] pos) (tMS C m sp dvs E ta t) := by
  refine ⟨fun pins s σ H Q I h => PySem.W.methodCall_KW (pl := pl) (thn (he.run pins s σ H _ I h) fun u s1 ⟨x, H1, I1, rx, a, dx, fs, ex, ea, l, q⟩ => ?_) ht⟩
  subst ex
  obtain rfl : u = Value.ref a := rx
  refine getmeth_ok I1 ea c hm l (PySem.W.callWith_K (first := [.ref a]) (h₀ := X.base) I.ok.mod.kin hm.kp (thn (ha.run pos pins s1 σ H1 _ I1 q) fun us s2 ⟨vs, H2, I2, r, q2⟩ => ⟨I2.kIn, ?_⟩) hst hpl)
  have r2 : Vals (V.ref a :: (vs ++ dvs)) (Value.ref a :: us ++ ds) := .cons rfl (r.append hd)
  have hl : (Value.ref a :: us ++ ds).length = ps.length := by rw [← r2.length]; exact F.len _ _ _ _ q2
  exact run_at (us0 := Value.ref a :: us) F hr (hx σ) I2 (hb s2 (Value.ref a :: us) I2.kIn hl) r2 q2
theorem pe_mS0 {pl : Sem Bool} (he : PE X o ta) (c : Cls X.K C) (hm : Meth X.K C m f) (F : FnOk X.prog X.w X.K X.mg X.base CX k f fd ps sp) (hr : Room k X.A) (hb : Binds X.K fd ps ds) (hd : Vals dvs ds) (hx : ∀ σ, PassesAt CX X σ (E σ))
    (ht : eval (.Call (.Attribute o m apos) [] [] pos) X.env = (do
      let ov ← eval o X.env
      standAt apos.atName
      let (f, first) ← holding [ov] (getMethod ov m pl)
      callWith pos f first (backTo pos (starEach [] X.env)) (backToKw pos (keywordEach [] X.env))) := by rfl) :
    PE X (.Call (.Attribute o m apos) [] [] pos) (tMS C m sp dvs E ta tNil) := by
  refine ⟨fun pins s σ H Q I h => PySem.W.methodCall_KW (pl := pl) (thn (he.run pins s σ H _ I h) fun u s1 ⟨x, H1, I1, rx, a, dx, fs, ex, ea, l, q⟩ => ?_) ht⟩
  subst ex
  obtain rfl : u = Value.ref a := rx
  have r2 : Vals (V.ref a :: ([] ++ dvs)) (Value.ref a :: [] ++ ds) := .cons rfl hd
  have hl : (Value.ref a :: [] ++ ds).length = ps.length := by rw [← r2.length]; exact F.len _ _ _ _ q
  refine getmeth_ok I1 ea c hm l (PySem.W.callWith_K0 (first := [.ref a]) I1.kIn hm.kp (run_at (us0 := [Value.ref a]) F hr (hx σ) I1 (hb s1 [Value.ref a] I1.kIn hl) r2 q))
/-- C(e, ..), the wish of errors by the slots -/
def tKS (C : Addr) (sp : Sp) (dvs : List V) (E : L2.St → XK) (t : TA) : TE := fun σ H Q => t σ H fun vs H1 => ∀ x dx, H1 x = none → H1 dx = none → dx ≠ x →
  sp (.ref x :: (vs ++ dvs)) (upd (upd H1 dx (.own x)) x (.ins C dx [])) (fun v H2 => v = .non ∧ Q (.ref x) H2) (E σ)
theorem pe_kS (M : Mk X.K C f) (F : FnOk X.prog X.w X.K X.mg X.base CX k f fd ps sp) (hr : Room (k + 1) X.A) (hg : Gl X x) (hm : X.mg x = some (.ref C)) (hb : Binds X.K fd ps ds) (hd : Vals dvs ds) (hx : ∀ σ, PassesAt CX X σ (E σ)) (ha : PA X (e :: es) t)
    (hdb : (x == ("__debug__" : Str)) = false := by decide) (he : starEach (e :: es) X.env = (false, eval e X.env) :: starEach es X.env := by rfl) (hpl : (backTo pos (starEach es X.env)).any (·.1) = false := by rfl) :
    PE X (.Call (.Name x p) (e :: es) [] pos) (tKS C sp dvs E t) := by
  refine ⟨fun pins s σ H Q I h => wpAny_Call_Name_kw (ld_glob I hg hm (PySem.W.callWith_K (h₀ := X.base) I.ok.mod.kin M.kp (thn (ha.run pos pins s σ H _ I h) fun us s1 ⟨vs, H1, I1, r, q⟩ => ⟨I1.kIn, ?_⟩) he hpl) hdb)⟩
  have hq := q (s1.heap.objs.size + 1) s1.heap.objs.size (I1.hok.fresh (Nat.le_succ _)) (I1.hok.fresh (Nat.le_refl _)) (Nat.ne_of_lt (Nat.lt_succ_self _))
  have I2 := Inv.made (C := C) I1
  have r2 : Vals (V.ref (s1.heap.objs.size + 1) :: (vs ++ dvs)) (Value.ref (s1.heap.objs.size + 1) :: us ++ ds) := .cons rfl (r.append hd)
  have hl : (Value.ref (s1.heap.objs.size + 1) :: us ++ ds).length = ps.length := by rw [← r2.length]; exact F.len _ _ _ _ hq
  refine wpAny_call (make_map (f := f) I1.kIn M.makes M.init (beq_iff_eq.mp M.fn) (codeAny_mono (F.run _ X.stack _ _ ⟨Value.ref (s1.heap.objs.size + 1) :: us, []⟩ (Value.ref (s1.heap.objs.size + 1) :: us ++ ds) _ _ (E σ) (hr.make C us [])
    (I2.env0.make C us []) (hb _ (Value.ref (s1.heap.objs.size + 1) :: us) I2.kIn hl) r2 hq) fun r s' hz => ?_))
  cases r with
  | error er => exact hx σ pins _ _ er s' I2 hz
  | ok fl => cases fl with
    | ret u =>
      obtain ⟨v, H', I3, rv, ev, q3⟩ := I2.after hz
      subst ev
      exact ⟨rv, ⟨V.ref (s1.heap.objs.size + 1), H', I3, rfl, q3⟩⟩
    | next => exact hz.elim
    | brk => exact hz.elim
    | cont => exact hz.elim
theorem passAll {X : Cx} (σ : L2.St) : PassesAt (L2.CX X.prog X.w) X σ E0 := fun pins H s er s' I h => passL pins σ H s er s' I h
/-- y in o, o of a class with its own __contains__ -/
def rInOwn (C : Addr) (sp : Sp) (E : XK) (neg : Bool) : R2 := fun y x H Q => ∃ a dx fs, x = .ref a ∧ H a = some (.ins C dx fs) ∧ sp [.ref a, y] H (fun v H' => ∃ b : Bool, v = .bl b ∧ Q (.bl (b != neg)) H') E
theorem has_own {pins : List (Addr × Obj)} {σ : L2.St} {H : Hp} {s : Shared} {E : XK} {a dx : Addr} {fs : List (Str × V)} {y : V} {v : Value} {Q : Bool → Hp → Prop} (c : Cls X.K C) (hm : Meth X.K C "__contains__" f) (F : FnOk X.prog X.w X.K X.mg X.base CX k f fd ps sp) (hr : Room k X.A)
    (hb : Binds X.K fd ps []) (hx : Passes CX X E) (I : Inv X pins σ H s) (ea : H a = some (.ins C dx fs)) (ry : RelV y v) (h : sp [.ref a, y] H (fun z H' => ∃ b : Bool, z = .bl b ∧ Q b H') E) :
    wpAny (model X.prog X.w) X.A (contains (.ref a) v) (fun b s' => ∃ H', Inv X pins σ H' s' ∧ Q b H') X.xe s := by
  obtain ⟨mA, O, _⟩ := ins_get I.hok ea
  obtain ⟨od, J, _⟩ := O.look
  unfold contains
  refine wpAny_holding (wpAny_bind (wpAny_bind (J.type.here ((PySem.W.looks_findIn I.kIn hm.at_).here ?_))))
  rw [if_neg (by simp)]
  refine wpAny_bind (PySem.W.unlessNone_K I.kIn J hm.at_ hm.fn (wpAny_mono (run_fn (us := [.ref a, v]) (vs := [.ref a, y]) F hr hb .nil hx I (.cons rfl (.cons ry .nil)) h) (fun u s' hu => ?_) fun _ _ z => z))
  obtain ⟨z, H', I', rz, b, rfl, q⟩ := hu
  obtain rfl : u = Value.bool b := rz
  exact wpAny_truthy_bool ⟨H', I', q⟩
theorem op_inOwn {E : XK} (c : Cls X.K C) (hm : Meth X.K C "__contains__" f) (F : FnOk X.prog X.w X.K X.mg X.base CX k f fd ps sp) (hr : Room k X.A) (hb : Binds X.K fd ps []) (hx : Passes CX X E) : OpR X (compareOp .In) (rInOwn C sp E false) := by
  intro pins s σ H y x v u Q I ry rx h
  obtain ⟨a, dx, fs, rfl, ea, h⟩ := h
  obtain rfl : u = Value.ref a := rx
  refine wpAny_bind (wpAny_mono (has_own (Q := fun b H' => Q (.bl b) H') c hm F hr hb hx I ea ry (by simpa using h)) (fun b s' hz => ?_) fun _ _ z => z)
  obtain ⟨H', I', q⟩ := hz
  exact wpAny_pure ⟨.bl b, H', I', rfl, q⟩
theorem op_notInOwn {E : XK} (c : Cls X.K C) (hm : Meth X.K C "__contains__" f) (F : FnOk X.prog X.w X.K X.mg X.base CX k f fd ps sp) (hr : Room k X.A) (hb : Binds X.K fd ps []) (hx : Passes CX X E) : OpR X (compareOp .NotIn) (rInOwn C sp E true) := by
  intro pins s σ H y x v u Q I ry rx h
  obtain ⟨a, dx, fs, rfl, ea, h⟩ := h
  obtain rfl : u = Value.ref a := rx
  refine wpAny_bind (wpAny_mono (has_own (Q := fun b H' => Q (.bl (!b)) H') c hm F hr hb hx I ea ry (by simpa using h)) (fun b s' hz => ?_) fun _ _ z => z)
  obtain ⟨H', I', q⟩ := hz
  exact wpAny_pure ⟨.bl (!b), H', I', rfl, q⟩
end
/-! the same rules with K named (in comprehensions and trys the context is a bound one) -/
section
variable {X : Cx} {K : PySem.W.Frag}
theorem pe_fldK {e : Expr} {ta : TE} {f : Str} {pos : Pos} (h : X.K = K) (he : PE X e ta) (hb : attributeBase e f X.env (eval e X.env) = eval e X.env) : PE X (.Attribute e f pos) (tFld K ta f) := h ▸ pe_fld he hb
theorem ixK {r : PySem.W.Frag → V → V → Hp → VK → Prop} (h : X.K = K) (q : IxR X (r X.K)) : IxR X (r K) := h ▸ q
theorem slK {r : PySem.W.Frag → V → Option Int → Option Int → Hp → VK → Prop} (h : X.K = K) (q : SlR X (r X.K)) : SlR X (r K) := h ▸ q
theorem opK {f : Value → Value → Sem Value} {r : PySem.W.Frag → R2} (h : X.K = K) (q : OpR X f (r X.K)) : OpR X f (r K) := h ▸ q
theorem callK {v : Value} {r : PySem.W.Frag → List V → Hp → VK → Prop} (h : X.K = K) (q : CallR X v (r X.K)) : CallR X v (r K) := h ▸ q
def rLenK (K : PySem.W.Frag) : List V → Hp → VK → Prop := fun xs H Q => ∃ x n, xs = [x] ∧ LenV K x H n ∧ Q (.int n) H
def rListK (K : PySem.W.Frag) : List V → Hp → VK → Prop := fun xs H Q => ∃ p ys, xs = [.ref p] ∧ (SqL K H p ys ∨ SqT K H p ys) ∧ ∀ l, H l = none → Q (.ref l) (upd H l (.lst ys))
end
/-- what the top says of an own class without errors -/
structure ClsT (K : PySem.W.Frag) (mg : Str → Option Value) (nm : Str) (C : Addr) : Prop where
  cl : Cls K C
  mgC : mg nm = some (.ref C)
  ha : PySem.W.findIn K (.ref C) "__class__" = some (some (.builtin "object.__class__"))
  hn : PySem.W.specialIn K (.builtin "object.__class__") "__get__" = some (some (.builtin "getset_descriptor.__get__"))
  ht : PySem.W.takesIn K (.builtin "object.__class__") = some true
  hm : PySem.W.mroIn K C (.type "object") = some true
theorem kit_self {K : PySem.W.Frag} {t : Value} (h : (t == t) = true) : PySem.W.kitOne K t t = some true := by
  unfold PySem.W.kitOne
  rw [if_pos h]
theorem ClsT.ty {K : PySem.W.Frag} {mg : Str → Option Value} {nm : Str} {C : Addr} (c : ClsT K mg nm C) {H : Hp} {a dx : Addr} {fs : List (Str × V)} (e : H a = some (.ins C dx fs)) : TyX K H (.ref a) (.ref C) := .base (.ins e c.cl c.ha c.hn c.ht c.hm)
/-! one rule or another, by the proof's choice -/
theorem pe_either {X : Cx} {e : Expr} {t1 t2 : TE} (h1 : PE X e t1) (h2 : PE X e t2) : PE X e (fun σ H Q => t1 σ H Q ∨ t2 σ H Q) := ⟨fun pins s σ H Q I h => h.elim (h1.run pins s σ H Q I) (h2.run pins s σ H Q I)⟩
def iSeq (K : PySem.W.Frag) (tl : TE) : TI := fun σ H R => iList K tl σ H R ∨ iTup K tl σ H R
theorem pi_seq {X : Cx} {tg l : Expr} {tl : TE} (h : PE X l tl) : PI X tg l (iSeq X.K tl) := ⟨fun pins s σ H R I h' => h'.elim ((pi_list h).run pins s σ H R I) ((pi_tup h).run pins s σ H R I)⟩
theorem hu_of {A : Around} {k : Nat} (hr : Room k A) : A.units + 1 < cLine := by
  have := hr.un
  omega

structure ExcT (K : PySem.W.Frag) (mg : Str → Option Value) (nm : Str) (C : Addr) : Prop where
  gC : mg nm = some (.ref C)
  xP : PySem.W.excIn K C [.type "ValueError", .type "Exception", .type "BaseException", .type "object"] "ValueError.__new__" = true
  kC : PySem.W.keepIn K (.ref C) = true
  bP : PySem.W.subIn K (.ref C) (.type "BaseException") = some true
  tP : PySem.W.typeIn K (.ref C) = some (.type "type")
  iP : PySem.W.isClsIn K C = true
  cP : ExcC K C
  vP : PySem.W.kitOne K (.ref C) (.type "ValueError") = some true
structure Env (K : PySem.W.Frag) (mg : Str → Option Value) where
  c_MeridianError : Addr
  c_BadArgument : Addr
  a_Span : Addr
  a_Clock : Addr
  a_Span_init : Addr
  d_Span_init : FuncData
  a_Span_contains : Addr
  d_Span_contains : FuncData
  a_Span_is_past : Addr
  d_Span_is_past : FuncData
  a_Clock_init : Addr
  d_Clock_init : FuncData
  a_Clock_drift : Addr
  d_Clock_drift : FuncData
  a_Clock_span : Addr
  d_Clock_span : FuncData
  a_Clock_wait_for : Addr
  d_Clock_wait_for : FuncData
  a__check_true_time : Addr
  d__check_true_time : FuncData
  a__law_cell : Addr
  d__law_cell : FuncData
  a__law_is_int : Addr
  d__law_is_int : FuncData
  a__law_number : Addr
  d__law_number : FuncData
  a__law_refused : Addr
  d__law_refused : FuncData
  a__law_shows : Addr
  d__law_shows : FuncData
  a_law : Addr
  d_law : FuncData
  F_Span_init : Fun K "__init__" "Span.__init__" s_Span_init a_Span_init d_Span_init
  b_Span_init : Binds K d_Span_init ["self", "low", "high"] []
  F_Span_contains : Fun K "__contains__" "Span.__contains__" s_Span_contains a_Span_contains d_Span_contains
  b_Span_contains : Binds K d_Span_contains ["self", "time"] []
  F_Span_is_past : Fun K "is_past" "Span.is_past" s_Span_is_past a_Span_is_past d_Span_is_past
  b_Span_is_past : Binds K d_Span_is_past ["self", "time"] []
  F_Clock_init : Fun K "__init__" "Clock.__init__" s_Clock_init a_Clock_init d_Clock_init
  b_Clock_init : Binds K d_Clock_init ["self", "bound"] []
  F_Clock_drift : Fun K "drift" "Clock.drift" s_Clock_drift a_Clock_drift d_Clock_drift
  b_Clock_drift : Binds K d_Clock_drift ["self", "offset"] []
  F_Clock_span : Fun K "span" "Clock.span" s_Clock_span a_Clock_span d_Clock_span
  b_Clock_span : Binds K d_Clock_span ["self", "now"] []
  F_Clock_wait_for : Fun K "wait_for" "Clock.wait_for" s_Clock_wait_for a_Clock_wait_for d_Clock_wait_for
  K_Clock_wait_for : KBn K d_Clock_wait_for ["self", "time", "now"] 2 ["now"] (fun us ws => us ++ ws) (fun vs zs => vs ++ zs)
  F__check_true_time : Fun K "_check_true_time" "_check_true_time" s__check_true_time a__check_true_time d__check_true_time
  b__check_true_time : Binds K d__check_true_time ["now"] []
  g__check_true_time : mg "_check_true_time" = some (.ref a__check_true_time)
  F__law_cell : Fun K "_law_cell" "_law_cell" s__law_cell a__law_cell d__law_cell
  b__law_cell : Binds K d__law_cell ["script", "k"] []
  g__law_cell : mg "_law_cell" = some (.ref a__law_cell)
  F__law_is_int : Fun K "_law_is_int" "_law_is_int" s__law_is_int a__law_is_int d__law_is_int
  b__law_is_int : Binds K d__law_is_int ["thing"] []
  g__law_is_int : mg "_law_is_int" = some (.ref a__law_is_int)
  F__law_number : Fun K "_law_number" "_law_number" s__law_number a__law_number d__law_number
  b__law_number : Binds K d__law_number ["cell"] []
  g__law_number : mg "_law_number" = some (.ref a__law_number)
  F__law_refused : Fun K "_law_refused" "_law_refused" s__law_refused a__law_refused d__law_refused
  b__law_refused : Binds K d__law_refused ["clock", "which", "number"] []
  g__law_refused : mg "_law_refused" = some (.ref a__law_refused)
  F__law_shows : Fun K "_law_shows" "_law_shows" s__law_shows a__law_shows d__law_shows
  b__law_shows : Binds K d__law_shows ["clock", "limit", "shift", "true"] []
  g__law_shows : mg "_law_shows" = some (.ref a__law_shows)
  F_law : Fun K "law" "law" s_law a_law d_law
  b_law : Binds K d_law ["script"] []
  e_MeridianError : ExcT K mg "MeridianError" c_MeridianError
  u_MeridianError_MeridianError : PySem.W.exmOne K (.ref c_MeridianError) (.ref c_MeridianError) = some true
  q_MeridianError_MeridianError : PySem.W.kitOne K (.ref c_MeridianError) (.ref c_MeridianError) = some true
  u_MeridianError_BadArgument : PySem.W.exmOne K (.ref c_MeridianError) (.ref c_BadArgument) = some false
  q_MeridianError_BadArgument : PySem.W.kitOne K (.ref c_MeridianError) (.ref c_BadArgument) = some false
  e_BadArgument : ExcT K mg "BadArgument" c_BadArgument
  u_BadArgument_MeridianError : PySem.W.exmOne K (.ref c_BadArgument) (.ref c_MeridianError) = some true
  q_BadArgument_MeridianError : PySem.W.kitOne K (.ref c_BadArgument) (.ref c_MeridianError) = some true
  u_BadArgument_BadArgument : PySem.W.exmOne K (.ref c_BadArgument) (.ref c_BadArgument) = some true
  q_BadArgument_BadArgument : PySem.W.kitOne K (.ref c_BadArgument) (.ref c_BadArgument) = some true
  k_Span : ClsT K mg "Span" a_Span
  n_Span_low : NoAttr K a_Span "low"
  n_Span_high : NoAttr K a_Span "high"
  M_Span : Mk K a_Span a_Span_init
  m_Span_contains : Meth K a_Span "__contains__" a_Span_contains
  m_Span_is_past : Meth K a_Span "is_past" a_Span_is_past
  k_Clock : ClsT K mg "Clock" a_Clock
  n_Clock_bound : NoAttr K a_Clock "bound"
  n_Clock_offset : NoAttr K a_Clock "offset"
  M_Clock : Mk K a_Clock a_Clock_init
  m_Clock_drift : Meth K a_Clock "drift" a_Clock_drift
  m_Clock_span : Meth K a_Clock "span" a_Clock_span
  m_Clock_wait_for : Meth K a_Clock "wait_for" a_Clock_wait_for
  z_max : mg "max" = none
  z_len : mg "len" = none
  z_abs : mg "abs" = none
  z_int : mg "int" = none
  z_isinstance : mg "isinstance" = none
  z_bool : mg "bool" = none
  z_range : mg "range" = none
section
variable {P : Program} {w : World} {K : PySem.W.Frag} {mg : Str → Option Value} {base : Heap}
--PART /work/steering/wip/tools/pre.lean


--PART /work/steering/wip/tools/own.lean


--PART /work/steering/wip/parts/rets.lean

--PART /work/steering/wip/parts/num.lean
/-! ### base 128 -/
def vint (n : Int) : List Int := if n < 128 then [n] else (n % 128 + 128) :: vint (n / 128)
termination_by n.toNat
decreasing_by omega
theorem vint_lt {n : Int} (h : n < 128) : vint n = [n] := by rw [vint, if_pos h]
theorem vint_ge {n : Int} (h : ¬ n < 128) : vint n = (n % 128 + 128) :: vint (n / 128) := by rw [vint, if_neg h]
def NB : Int := 128 ^ 100
theorem vint_len : ∀ (k : Nat) (n : Int), n < 128 ^ (k + 1) → (vint n).length ≤ k + 1
  | 0, n, h => by
    have h' : n < 128 := by simpa using h
    rw [vint_lt h']
    exact Nat.le_refl _
  | k + 1, n, h => by
    by_cases c : n < 128
    · rw [vint_lt c]
      show 1 ≤ _
      omega
    · rw [vint_ge c, List.length_cons]
      have := vint_len k (n / 128) (by
        have e : (128 : Int) ^ (k + 1 + 1) = 128 ^ (k + 1) * 128 := Int.pow_succ ..
        rw [e] at h
        exact Int.ediv_lt_of_lt_mul (by decide) h)
      omega
theorem vint_len100 {n : Int} (h : n < NB) : (vint n).length ≤ 100 := vint_len 99 n h
theorem vint_ne (n : Int) : vint n ≠ [] := by
  by_cases c : n < 128
  · rw [vint_lt c]; simp
  · rw [vint_ge c]; simp
theorem vint_pos (n : Int) : 1 ≤ (vint n).length := by
  have := vint_ne n
  cases e : vint n with
  | nil => exact absurd e this
  | cons a r => simp
theorem vint_byte : ∀ (k : Nat) (n : Int), n < 128 ^ (k + 1) → 0 ≤ n → ∀ b ∈ vint n, 0 ≤ b ∧ b < 256
  | 0, n, h, h0, b, hb => by
    have h' : n < 128 := by simpa using h
    rw [vint_lt h'] at hb
    have : b = n := by simpa using hb
    omega
  | k + 1, n, h, h0, b, hb => by
    by_cases c : n < 128
    · rw [vint_lt c] at hb
      have : b = n := by simpa using hb
      omega
    · rw [vint_ge c] at hb
      rcases List.mem_cons.mp hb with e | e
      · omega
      · exact vint_byte k (n / 128) (by
          have e : (128 : Int) ^ (k + 1 + 1) = 128 ^ (k + 1) * 128 := Int.pow_succ ..
          rw [e] at h
          exact Int.ediv_lt_of_lt_mul (by decide) h) (by omega) b e
theorem vint_byte_NB {n : Int} (h : n < NB) (h0 : 0 ≤ n) : ∀ b ∈ vint n, 0 ≤ b ∧ b < 256 := vint_byte 99 n h h0
/-! ### numbers of the law -/
def lawNum (c : Int) : Int := if c < 10 ^ 18 then ([0, 1, 127, 128, 129, 16383, 16384, 16385, c] : List Int).getD (c % 9).toNat 0 else c % 10 ^ 60
theorem lawNum_lt {c : Int} (h : 0 ≤ c) : 0 ≤ lawNum c ∧ lawNum c < 10 ^ 60 := by
  unfold lawNum
  by_cases k : c < 10 ^ 18
  · rw [if_pos k]
    obtain ⟨j, hj, e⟩ : ∃ j : Nat, j < 9 ∧ (c % 9).toNat = j := ⟨_, by omega, rfl⟩
    rw [e]
    match j, hj with
    | 0, _ | 1, _ | 2, _ | 3, _ | 4, _ | 5, _ | 6, _ | 7, _ => exact ⟨by simp, by simp⟩
    | 8, _ => exact ⟨h, by show c < _; omega⟩
  · rw [if_neg k]
    exact ⟨Int.emod_nonneg _ (by decide), Int.emod_lt_of_pos _ (by decide)⟩
theorem num_NB {n : Int} (h : n < 10 ^ 60) : n < NB := Int.lt_of_lt_of_le h (by decide +kernel)
theorem canLay_dints : ∀ ns : List Int, PyData.canLayAll0 (ns.map PyData.int) = true
  | [] => rfl
  | n :: r => by
    show (PyData.canLay0 (.int n) && PyData.canLayAll0 (r.map PyData.int)) = true
    rw [canLay_dints r]
    rfl
theorem depth_dints : ∀ ns : List Int, PyData.depthAll (ns.map PyData.int) = 0
  | [] => by unfold PyData.depthAll; rfl
  | n :: r => by
    show PyData.depthAll (.int n :: r.map PyData.int) = 0
    unfold PyData.depthAll
    rw [depth_dints r]
    unfold PyData.depth
    rfl
theorem shaped_dInts (ns : List Int) : SeqAt.shaped (dInts ns) = true := by
  unfold SeqAt.shaped dInts
  rw [show PyData.canLay0 (.list (ns.map PyData.int)) = true from by unfold PyData.canLay0; exact canLay_dints ns]
  have : PyData.depth (.list (ns.map PyData.int)) = 1 := by
    unfold PyData.depth
    rw [depth_dints]
  rw [this]
  decide

--PART /work/steering/wip/parts/lawnum.lean
/-! ### the law's own helpers -/
def cell (ns : List Int) (k : Int) : Int := ((ns.getD k.toNat 0).natAbs : Int)
theorem cell_nn (ns : List Int) (k : Int) : 0 ≤ cell ns k := Int.natCast_nonneg _
def sp__law_cell (T : Env K mg) : Sp := fun vs H Q E => ∃ (a : Addr) (ns : List Int) (k : Int), vs = [.ref a, .int k] ∧ SqL K H a (ns.map V.int) ∧ 0 ≤ k ∧ Q (.int (cell ns k)) H
theorem ok__law_cell (T : Env K mg) : FnOk P w K mg base (L2.CX P w) 1 T.a__law_cell T.d__law_cell ["script", "k"] (sp__law_cell T) := by
  refine T.F__law_cell.okX sc__law_cell (fun vs H Q E h => by obtain ⟨_, _, _, rfl, _⟩ := h; rfl) (fun cdv A outer s H vs Q E hr h => ?_)
  obtain ⟨a, ns, k, rfl, hS, hk, h1⟩ := h
  refine ⟨_, (pss_cons (ps_if (pt_cmpR op_lt (pv 1) (pe_callB call_len (by rfl) T.z_len (by decide +kernel) (pa_cons (pv 0) pa_nil)) (nomark _)) (pss_one (ps_ret (pe_callB call_abs (by rfl) T.z_abs (by decide +kernel) (pa_cons (pe_callTy call_int1 (by rfl) T.z_int (by decide +kernel) (pa_cons (pe_ix ix_list (pv 0) (pv 1) (fun _ _ => rfl)) pa_nil)) pa_nil)))) pss_nil)
      (pss_one (ps_ret pe_int))), ?_⟩
  obtain ⟨j, rfl⟩ : ∃ j : Nat, k = (j : Int) := ⟨k.toNat, by omega⟩
  have hc : cell ns (j : Int) = ((ns.getD j 0).natAbs : Int) := rfl
  refine ⟨_, rfl, _, rfl, _, _, rfl, .inl ⟨_, hS, rfl⟩, _, _, rfl, rfl, _, rfl, iteD (fun c => ?_) (fun c => ?_)⟩
  · rw [List.length_map] at c
    have hj : j < ns.length := by omega
    refine ⟨_, rfl, _, rfl, a, _, _, _, rfl, rfl, hS, at_of (j := j) (v := V.int (ns.getD j 0)) rfl (by rw [List.getElem?_map, List.getD_eq_getElem?_getD, List.getElem?_eq_getElem hj]; rfl), .inl ⟨_, rfl, _, rfl, ?_⟩⟩
    have e : (if ns.getD j 0 < 0 then -ns.getD j 0 else ns.getD j 0) = cell ns (j : Int) := by
      rw [hc]
      split <;> omega
    show Q (V.int (if ns.getD j 0 < 0 then -ns.getD j 0 else ns.getD j 0)) H
    rw [e]
    exact h1
  · rw [List.length_map] at c
    show Q (.int 0) H
    have e : cell ns (j : Int) = 0 := by
      rw [hc, List.getD_eq_getElem?_getD, List.getElem?_eq_none (by omega)]
      rfl
    rw [e] at h1
    exact h1
def sp__law_is_int (T : Env K mg) : Sp := fun vs H Q E => ∃ (i : Int), vs = [.int i] ∧ Q (.bl true) H
theorem ok__law_is_int (T : Env K mg) : FnOk P w K mg base (L2.CX P w) 1 T.a__law_is_int T.d__law_is_int ["thing"] (sp__law_is_int T) := by
  refine T.F__law_is_int.okX sc__law_is_int (fun vs H Q E h => by obtain ⟨_, rfl, _⟩ := h; rfl) (fun cdv A outer s H vs Q E hr h => ?_)
  obtain ⟨i, rfl, h1⟩ := h
  refine ⟨_, (pss_one (ps_ret (pe_and (pe_callB call_isi (by rfl) T.z_isinstance (by decide +kernel) (pa_cons (pv 0) (pa_cons (pe_bltn (v := .ty "int") (by rfl) T.z_int (by decide +kernel) rfl) pa_nil))) (pe_one (pe_not (pe_callB call_isi (by rfl) T.z_isinstance (by decide +kernel) (pa_cons (pv 0) (pa_cons (pe_bltn (v := .ty "bool") (by rfl) T.z_bool (by decide +kernel) rfl) pa_nil)))))))), ?_⟩
  refine ⟨_, rfl, _, _, _, _, _, rfl, .ty _, .base (.int _), kit_ty (b := "int") (r := true) (by decide +kernel), _, rfl, iteT ?_⟩
  exact ⟨_, rfl, _, _, _, _, _, rfl, .ty _, .base (.int _), kit_ty (b := "bool") (r := false) (by decide +kernel), _, rfl, h1⟩

--PART /work/steering/wip/parts/lawnumber.lean
def sp__law_number (T : Env K mg) : Sp := fun vs H Q E => ∃ c : Int, vs = [.int c] ∧ 0 ≤ c ∧ ∀ H', Same H H' → Q (.int (lawNum c)) H'
theorem ok__law_number (T : Env K mg) : FnOk P w K mg base (L2.CX P w) 1 T.a__law_number T.d__law_number ["cell"] (sp__law_number T) := by
  refine T.F__law_number.okX sc__law_number (fun vs H Q E h => by obtain ⟨n, rfl, _⟩ := h; rfl) (fun cdv A outer s H vs Q E hr h => ?_)
  obtain ⟨c, rfl, hc, h1⟩ := h
  refine ⟨_, (pss_cons (ps_if (pt_cmpR op_lt (pv 0) (pe_op op_pow pe_int pe_int) (nomark _)) (pss_one (ps_ret (pe_ix ix_list (pe_lst (pa_cons pe_int (pa_cons pe_int (pa_cons pe_int (pa_cons pe_int (pa_cons pe_int (pa_cons pe_int (pa_cons pe_int (pa_cons pe_int (pa_cons (pv 0) pa_nil)))))))))) (pe_op op_mod (pe_callTy call_int1 (by rfl) T.z_int (by decide +kernel) (pa_cons (pv 0) pa_nil)) pe_int) (fun _ _ => rfl)))) pss_nil)
      (pss_one (ps_ret (pe_op op_mod (pe_callTy call_int1 (by rfl) T.z_int (by decide +kernel) (pa_cons (pv 0) pa_nil)) (pe_op op_pow pe_int pe_int))))), ?_⟩
  refine ⟨_, rfl, _, _, rfl, rfl, ⟨by decide, by decide, by decide⟩, _, _, rfl, rfl, _, rfl, iteD (fun k => ?_) (fun k => ?_)⟩
  · have k : c < 10 ^ 18 := k
    refine ⟨_, rfl, (by show 9 ≤ sizeLine; decide), fun p np => ?_⟩
    refine ⟨_, rfl, .inl ⟨_, rfl, _, _, rfl, rfl, by show (0 : Int) < _; decide, p, _, _, .int (lawNum c), rfl, rfl, SqL.of upd_same, at_of (j := (c % 9).toNat) (by omega) ?_, h1 _ (same_new np)⟩⟩
    unfold lawNum
    rw [if_pos k]
    obtain ⟨j, hj, e⟩ : ∃ j : Nat, j < 9 ∧ (c % 9).toNat = j := ⟨_, by omega, rfl⟩
    rw [e]
    match j, hj with
    | 0, _ | 1, _ | 2, _ | 3, _ | 4, _ | 5, _ | 6, _ | 7, _ | 8, _ => simp
  · have k : ¬ c < 10 ^ 18 := k
    refine ⟨_, rfl, .inl ⟨_, rfl, _, _, rfl, rfl, ⟨by decide, by decide, by decide⟩, _, _, rfl, rfl, by show (0 : Int) < _; decide, ?_⟩⟩
    have e : lawNum c = c % 10 ^ 60 := if_neg k
    have := h1 H (Same.refl H)
    rw [e] at this
    exact this

--PART /work/steering/wip/parts/spans.lean
/-! ### spans -/
theorem low_high : ¬ (("low" : Str) = "high") := by decide +kernel
def spf (lo hi : Int) : List (Str × V) := putF "high" (.int hi) (putF "low" (.int lo) [])
theorem spf_low (lo hi : Int) : (spf lo hi).lookup ("low" : Str) = some (.int lo) := by
  unfold spf
  rw [lookup_putF, if_neg low_high, lookup_putF, if_pos rfl]
theorem spf_high (lo hi : Int) : (spf lo hi).lookup ("high" : Str) = some (.int hi) := by
  unfold spf
  rw [lookup_putF, if_pos rfl]
theorem spf_no (lo hi : Int) {m : Str} (h1 : ¬ m = "high") (h2 : ¬ m = "low") : (spf lo hi).lookup m = none := by
  unfold spf
  rw [lookup_putF, if_neg h1, lookup_putF, if_neg h2]
  rfl
def SpanAt (T : Env K mg) (H : Hp) (a : Addr) (lo hi : Int) : Prop := ∃ dx, H a = some (.ins T.a_Span dx (spf lo hi))
theorem SpanAt.same {T : Env K mg} {H H' : Hp} {a : Addr} {lo hi : Int} (h : SpanAt T H a lo hi) (s : Same H H') : SpanAt T H' a lo hi := by
  obtain ⟨dx, h⟩ := h
  exact ⟨dx, s _ _ h⟩
def sp_Span_init (T : Env K mg) : Sp := fun vs H Q E => ∃ (p dx : Addr) (lo hi : Int), vs = [.ref p, .int lo, .int hi] ∧ H p = some (.ins T.a_Span dx []) ∧
  (lo ≤ hi → ∀ H', SpanAt T H' p lo hi → (∀ b o, H b = some o → b ≠ p → H' b = some o) → Q .non H') ∧ (hi < lo → E (.ref T.c_BadArgument) none H)
theorem ok_Span_init (T : Env K mg) : FnOk P w K mg base (L2.CX P w) 1 T.a_Span_init T.d_Span_init ["self", "low", "high"] (sp_Span_init T) := by
  refine T.F_Span_init.okX sc_Span_init (fun vs H Q E h => by obtain ⟨_, _, _, _, rfl, _⟩ := h; rfl) (fun cdv A outer s H vs Q E hr h => ?_)
  obtain ⟨p, dx, lo, hi, rfl, hp, h1, h2⟩ := h
  refine ⟨_, (pss_cons (ps_if (pt_cmpR op_gt (pv 1) (pv 2) (nomark _)) (pss_one (ps_raise rfl (takes_of rfl rfl rfl rfl) (pmk_own PySem.F.excBase_ValueError T.e_BadArgument.xP T.e_BadArgument.gC T.e_BadArgument.kC (raises_own T.e_BadArgument.bP T.e_BadArgument.tP) (by exact rfl)))) pss_nil)
      (pss_cons (ps_fld (pv 0) (pv 1) rfl)
      (pss_one (ps_fld (pv 0) (pv 2) rfl)))), ?_⟩
  refine ⟨_, rfl, _, rfl, _, _, rfl, rfl, _, rfl, iteD (fun c => h2 c) (fun c => ?_)⟩
  refine ⟨_, rfl, _, rfl, p, T.a_Span, dx, [], rfl, hp, T.k_Span.cl, T.n_Span_low, (by show 0 < 1000; decide), ?_⟩
  refine ⟨_, rfl, _, rfl, p, T.a_Span, dx, _, rfl, upd_same, T.k_Span.cl, T.n_Span_high, (by show 1 < 1000; decide), ?_⟩
  exact h1 (by omega) _ ⟨dx, upd_same⟩ fun b o e hb => by rw [upd_ne hb, upd_ne hb]; exact e
/-- a span has been made -/
theorem span_made {T : Env K mg} {H H' : Hp} {x dx : Addr} {lo hi : Int} (nx : H x = none) (nd : H dx = none) (k : ∀ b o, (upd (upd H dx (.own x)) x (.ins T.a_Span dx [])) b = some o → b ≠ x → H' b = some o) : Same H H' := Same.made nx nd k
def sp_Span_contains (T : Env K mg) : Sp := fun vs H Q E => ∃ (a : Addr) (t lo hi : Int), vs = [.ref a, .int t] ∧ SpanAt T H a lo hi ∧ Q (.bl (decide (lo ≤ t) && decide (t ≤ hi))) H
theorem ok_Span_contains (T : Env K mg) : FnOk P w K mg base (L2.CX P w) 1 T.a_Span_contains T.d_Span_contains ["self", "time"] (sp_Span_contains T) := by
  refine T.F_Span_contains.okX sc_Span_contains (fun vs H Q E h => by obtain ⟨_, _, _, _, rfl, _⟩ := h; rfl) (fun cdv A outer s H vs Q E hr h => ?_)
  obtain ⟨a, t, lo, hi, rfl, ⟨dx, ha⟩, h1⟩ := h
  refine ⟨_, (pss_one (ps_ret (pe_chain op_le op_le (pe_fld (pv 0) rfl) (pv 1) (pe_fld (pv 0) rfl)))), ?_⟩
  refine ⟨_, rfl, a, _, _, _, _, rfl, ha, T.k_Span.cl, T.n_Span_low, spf_low _ _, _, rfl, _, _, rfl, rfl, _, rfl, iteD (fun c => ?_) (fun c => ?_)⟩
  · refine ⟨_, rfl, a, _, _, _, _, rfl, ha, T.k_Span.cl, T.n_Span_high, spf_high _ _, _, _, rfl, rfl, ?_⟩
    rw [decide_eq_true c, Bool.true_and] at h1
    exact h1
  · rw [decide_eq_false c, Bool.false_and] at h1
    exact h1
def sp_Span_is_past (T : Env K mg) : Sp := fun vs H Q E => ∃ (a : Addr) (t lo hi : Int), vs = [.ref a, .int t] ∧ SpanAt T H a lo hi ∧ Q (.bl (decide (t < lo))) H
theorem ok_Span_is_past (T : Env K mg) : FnOk P w K mg base (L2.CX P w) 1 T.a_Span_is_past T.d_Span_is_past ["self", "time"] (sp_Span_is_past T) := by
  refine T.F_Span_is_past.okX sc_Span_is_past (fun vs H Q E h => by obtain ⟨_, _, _, _, rfl, _⟩ := h; rfl) (fun cdv A outer s H vs Q E hr h => ?_)
  obtain ⟨a, t, lo, hi, rfl, ⟨dx, ha⟩, h1⟩ := h
  refine ⟨_, (pss_one (ps_ret (pe_cmpR op_lt (pv 1) (pe_fld (pv 0) rfl) (nomark _)))), ?_⟩
  exact ⟨_, rfl, _, rfl, a, _, _, _, _, rfl, ha, T.k_Span.cl, T.n_Span_low, spf_low _ _, _, _, rfl, rfl, h1⟩
--PART /work/steering/wip/parts/k07.lean
/-! ### clocks -/
theorem bound_offset : ¬ (("bound" : Str) = "offset") := by decide +kernel
def ckf (b o : Int) : List (Str × V) := putF "offset" (.int o) (putF "bound" (.int b) [])
theorem ckf_bound (b o : Int) : (ckf b o).lookup ("bound" : Str) = some (.int b) := by
  unfold ckf
  rw [lookup_putF, if_neg bound_offset, lookup_putF, if_pos rfl]
theorem ckf_offset (b o : Int) : (ckf b o).lookup ("offset" : Str) = some (.int o) := by
  unfold ckf
  rw [lookup_putF, if_pos rfl]
theorem ckf_no (b o : Int) {m : Str} (h1 : ¬ m = "offset") (h2 : ¬ m = "bound") : (ckf b o).lookup m = none := by
  unfold ckf
  rw [lookup_putF, if_neg h1, lookup_putF, if_neg h2]
  rfl
theorem ckf_eq (b o : Int) : ckf b o = ([("bound", V.int b), ("offset", V.int o)] : List (Str × V)) := by
  show (if ("bound" : Str) = "offset" then [(("bound" : Str), V.int o)] else (("bound" : Str), V.int b) :: putF "offset" (V.int o) []) = _
  rw [if_neg bound_offset]
  rfl
theorem ckf_put (b o o2 : Int) : putF "offset" (.int o2) (ckf b o) = ckf b o2 := by
  rw [ckf_eq, ckf_eq]
  show (if ("bound" : Str) = "offset" then _ else (("bound" : Str), V.int b) :: (if ("offset" : Str) = "offset" then [(("offset" : Str), V.int o2)] else _)) = _
  rw [if_neg bound_offset, if_pos rfl]
def ClockAt (T : Env K mg) (H : Hp) (a : Addr) (b o : Int) : Prop := ∃ dx, H a = some (.ins T.a_Clock dx (ckf b o))
theorem ClockAt.same {T : Env K mg} {H H' : Hp} {a : Addr} {b o : Int} (h : ClockAt T H a b o) (s : Same H H') : ClockAt T H' a b o := by
  obtain ⟨dx, h⟩ := h
  exact ⟨dx, s _ _ h⟩
/-- an object unknown before may change -/
theorem same_but {H H1 H2 : Hp} {a : Addr} (s : Same H H1) (h : H a = none) (k : ∀ c u, H1 c = some u → c ≠ a → H2 c = some u) : Same H H2 := fun b o e => k b o (s b o e) (ne_of_none e h)
def sp_Clock_init (T : Env K mg) : Sp := fun vs H Q E => ∃ (p dx : Addr) (b : Int), vs = [.ref p, .int b] ∧ H p = some (.ins T.a_Clock dx []) ∧
  (0 ≤ b → ∀ H', ClockAt T H' p b 0 → (∀ c u, H c = some u → c ≠ p → H' c = some u) → Q .non H') ∧ (b < 0 → E (.ref T.c_BadArgument) none H)
theorem ok_Clock_init (T : Env K mg) : FnOk P w K mg base (L2.CX P w) 1 T.a_Clock_init T.d_Clock_init ["self", "bound"] (sp_Clock_init T) := by
  refine T.F_Clock_init.okX sc_Clock_init (fun vs H Q E h => by obtain ⟨_, _, _, rfl, _⟩ := h; rfl) (fun cdv A outer s H vs Q E hr h => ?_)
  obtain ⟨p, dx, b, rfl, hp, h1, h2⟩ := h
  refine ⟨_, (pss_cons (ps_if (pt_cmpR op_lt (pv 1) pe_int (nomark _)) (pss_one (ps_raise rfl (takes_of rfl rfl rfl rfl) (pmk_own PySem.F.excBase_ValueError T.e_BadArgument.xP T.e_BadArgument.gC T.e_BadArgument.kC (raises_own T.e_BadArgument.bP T.e_BadArgument.tP) (by exact rfl)))) pss_nil)
      (pss_cons (ps_fld (pv 0) (pv 1) rfl)
      (pss_one (ps_fld (pv 0) pe_int rfl)))), ?_⟩
  refine ⟨_, rfl, _, _, rfl, rfl, _, rfl, iteD (fun c => h2 c) (fun c => ?_)⟩
  refine ⟨_, rfl, _, rfl, p, T.a_Clock, dx, [], rfl, hp, T.k_Clock.cl, T.n_Clock_bound, (by show 0 < 1000; decide), ?_⟩
  refine ⟨_, rfl, p, T.a_Clock, dx, _, rfl, upd_same, T.k_Clock.cl, T.n_Clock_offset, (by show 1 < 1000; decide), ?_⟩
  exact h1 (by omega) _ ⟨dx, upd_same⟩ fun b o e hb => by rw [upd_ne hb, upd_ne hb]; exact e
def sp_Clock_drift (T : Env K mg) : Sp := fun vs H Q E => ∃ (a : Addr) (b o0 o : Int), vs = [.ref a, .int o] ∧ ClockAt T H a b o0 ∧
  (-b ≤ o → o ≤ b → ∀ H', ClockAt T H' a b o → (∀ c u, H c = some u → c ≠ a → H' c = some u) → Q .non H') ∧ (o < -b ∨ b < o → E (.ref T.c_BadArgument) none H)
theorem ok_Clock_drift (T : Env K mg) : FnOk P w K mg base (L2.CX P w) 1 T.a_Clock_drift T.d_Clock_drift ["self", "offset"] (sp_Clock_drift T) := by
  refine T.F_Clock_drift.okX sc_Clock_drift (fun vs H Q E h => by obtain ⟨_, _, _, _, rfl, _⟩ := h; rfl) (fun cdv A outer s H vs Q E hr h => ?_)
  obtain ⟨a, b, o0, o, rfl, ⟨dx, ha⟩, h1, h2⟩ := h
  refine ⟨_, (pss_cons (ps_if (PW.pt (pw_or (pt_cmpR op_lt (pv 1) (pe_un un_neg (pe_fld (pv 0) rfl)) (nomark _)) (pw_or1 (pt_cmpR op_gt (pv 1) (pe_fld (pv 0) rfl) (nomark _))))) (pss_one (ps_raise rfl (takes_of rfl rfl rfl rfl) (pmk_own PySem.F.excBase_ValueError T.e_BadArgument.xP T.e_BadArgument.gC T.e_BadArgument.kC (raises_own T.e_BadArgument.bP T.e_BadArgument.tP) (by exact rfl)))) pss_nil)
      (pss_one (ps_fld (pv 0) (pv 1) rfl))), ?_⟩
  refine ⟨_, rfl, _, rfl, a, _, _, _, _, rfl, ha, T.k_Clock.cl, T.n_Clock_bound, ckf_bound _ _, _, rfl, _, _, rfl, rfl, _, rfl, iteD (fun c => iteT (h2 (.inl c))) (fun c => ?_)⟩
  refine ⟨_, rfl, _, rfl, a, _, _, _, _, rfl, ha, T.k_Clock.cl, T.n_Clock_bound, ckf_bound _ _, _, _, rfl, rfl, _, rfl, iteD (fun k => h2 (.inr k)) (fun k => ?_)⟩
  refine ⟨_, rfl, _, rfl, a, T.a_Clock, dx, _, rfl, ha, T.k_Clock.cl, T.n_Clock_offset, (by rw [ckf_eq]; show 2 < 1000; decide), ?_⟩
  exact h1 (by omega) (by omega) _ ⟨dx, by rw [upd_same, ckf_put]⟩ fun b o e hb => by rw [upd_ne hb]; exact e
def sp__check_true_time (T : Env K mg) : Sp := fun vs H Q E => ∃ n : Int, vs = [.int n] ∧ (0 ≤ n → Q .non H) ∧ (n < 0 → E (.ref T.c_BadArgument) none H)
theorem ok__check_true_time (T : Env K mg) : FnOk P w K mg base (L2.CX P w) 1 T.a__check_true_time T.d__check_true_time ["now"] (sp__check_true_time T) := by
  refine T.F__check_true_time.okX sc__check_true_time (fun vs H Q E h => by obtain ⟨_, rfl, _⟩ := h; rfl) (fun cdv A outer s H vs Q E hr h => ?_)
  obtain ⟨n, rfl, h1, h2⟩ := h
  refine ⟨_, (pss_one (ps_if (pt_cmpR op_lt (pv 0) pe_int (nomark _)) (pss_one (ps_raise rfl (takes_of rfl rfl rfl rfl) (pmk_own PySem.F.excBase_ValueError T.e_BadArgument.xP T.e_BadArgument.gC T.e_BadArgument.kC (raises_own T.e_BadArgument.bP T.e_BadArgument.tP) (by exact rfl)))) pss_nil)), ?_⟩
  exact ⟨_, rfl, _, _, rfl, rfl, _, rfl, iteD (fun c => h2 c) (fun c => h1 (by omega))⟩
def sp_Clock_span (T : Env K mg) : Sp := fun vs H Q E => ∃ (a : Addr) (n b o : Int), vs = [.ref a, .int n] ∧ ClockAt T H a b o ∧ 0 ≤ b ∧ (0 ≤ n → ∀ p H', Same H H' → H p = none → SpanAt T H' p (n + o - b) (n + o + b) → Q (.ref p) H') ∧ (n < 0 → E (.ref T.c_BadArgument) none H)
theorem ok_Clock_span (T : Env K mg) : FnOk P w K mg base (L2.CX P w) 3 T.a_Clock_span T.d_Clock_span ["self", "now"] (sp_Clock_span T) := by
  refine T.F_Clock_span.okX sc_Clock_span (fun vs H Q E h => by obtain ⟨_, _, _, _, rfl, _⟩ := h; rfl) (fun cdv A outer s H vs Q E hr h => ?_)
  obtain ⟨a, n, b, o, rfl, ⟨dx, ha⟩, hb, h1, h2⟩ := h
  have hu64 := hu64_of hr
  have G__check_true_time := ok__check_true_time (P := P) (w := w) (base := base) T
  have G_Span_init := ok_Span_init (P := P) (w := w) (base := base) T
  refine ⟨_, (pss_cons (ps_expr (pe_call G__check_true_time (hr.mono (by decide)) rfl T.g__check_true_time T.F__check_true_time.kp T.b__check_true_time .nil (passes_call (takes_of rfl rfl rfl rfl) (fun _ _ _ _ x => x)) (pa_cons (pv 1) pa_nil)))
      (pss_cons (ps_set (i := 2) sc_Clock_span.nd rfl (Or.inl rfl) (pe_op op_add (pv 1) (pe_fld (pv 0) rfl)))
      (pss_one (ps_ret (pe_make T.M_Span G_Span_init (hr.mono (by decide)) rfl T.k_Span.mgC T.b_Span_init .nil (passes_call (takes_of rfl rfl rfl rfl) (fun _ _ _ _ x => x)) (pa_cons (pe_op op_sub (pv 2) (pe_fld (pv 0) rfl)) (pa_cons (pe_op op_add (pv 2) (pe_fld (pv 0) rfl)) pa_nil))))))), ?_⟩
  refine ⟨_, rfl, n, rfl, fun hn => ?_, fun hn => h2 hn⟩
  refine ⟨_, rfl, _, rfl, a, _, _, _, _, rfl, ha, T.k_Clock.cl, T.n_Clock_offset, ckf_offset _ _, _, _, rfl, rfl, ?_⟩
  refine ⟨_, rfl, _, rfl, a, _, _, _, _, rfl, ha, T.k_Clock.cl, T.n_Clock_bound, ckf_bound _ _, _, _, rfl, rfl, _, rfl, _, rfl, a, _, _, _, _, rfl, ha, T.k_Clock.cl, T.n_Clock_bound, ckf_bound _ _, _, _, rfl, rfl, fun x d nx nd ne => ?_⟩
  exact ⟨x, d, n + o - b, n + o + b, rfl, upd_same, fun _ H1 hx k => ⟨rfl, h1 hn x H1 (Same.made nx nd k) nx hx⟩, fun c => absurd c (by omega)⟩
def waitOf (t n b o : Int) : Int := if t + 1 - (n + o - b) > 0 then t + 1 - (n + o - b) else 0
def sp_Clock_wait_for (T : Env K mg) : Sp := fun vs H Q E => ∃ (a : Addr) (t n b o : Int), vs = [.ref a, .int t, .int n] ∧ ClockAt T H a b o ∧ 0 ≤ b ∧ (0 ≤ n → ∀ H', Same H H' → Q (.int (waitOf t n b o)) H') ∧ (n < 0 → E (.ref T.c_BadArgument) none H)
theorem ok_Clock_wait_for (T : Env K mg) : FnOk P w K mg base (L2.CX P w) 4 T.a_Clock_wait_for T.d_Clock_wait_for ["self", "time", "now"] (sp_Clock_wait_for T) := by
  refine T.F_Clock_wait_for.okX sc_Clock_wait_for (fun vs H Q E h => by obtain ⟨_, _, _, _, _, rfl, _⟩ := h; rfl) (fun cdv A outer s H vs Q E hr h => ?_)
  obtain ⟨a, t, n, b, o, rfl, ⟨dx, ha⟩, hb, h1, h2⟩ := h
  have hu64 := hu64_of hr
  have G_Clock_span := ok_Clock_span (P := P) (w := w) (base := base) T
  refine ⟨_, (pss_cons (ps_set (i := 3) sc_Clock_wait_for.nd rfl (Or.inl rfl) (pe_fld (pe_meth (pv 0) T.k_Clock.cl T.m_Clock_span G_Clock_span (hr.mono (by decide)) T.b_Clock_span .nil (passes_call (takes_of rfl rfl rfl rfl) (fun _ _ _ _ x => x)) (pa_cons (pv 2) pa_nil)) rfl))
      (pss_one (ps_ret (pe_callB (call_max2 rfl) (by rfl) T.z_max (by decide +kernel) (pa_cons pe_int (pa_cons (pe_op op_sub (pe_op op_add (pv 1) pe_int) (pv 3)) pa_nil)))))), ?_⟩
  refine ⟨_, rfl, a, dx, _, rfl, ha, ckf_no _ _ (by decide +kernel) (by decide +kernel), _, rfl, a, n, b, o, rfl, ⟨dx, ha⟩, hb, fun hn p H1 s1 np hp => ?_, fun hn => h2 hn⟩
  obtain ⟨d, hd⟩ := hp
  refine ⟨p, _, _, _, _, rfl, hd, T.k_Span.cl, T.n_Span_low, spf_low _ _, ?_⟩
  refine ⟨_, rfl, _, _, rfl, rfl, _, rfl, _, _, rfl, rfl, _, _, rfl, ?_⟩
  exact h1 hn H1 s1
def sp__law_refused (T : Env K mg) : Sp := fun vs H Q E => ∃ (a : Addr) (w n b o : Int), vs = [.ref a, .int w, .int n] ∧ ClockAt T H a b o ∧ 0 ≤ b ∧ (w ≠ 1 → n < 0) ∧ (w = 1 → n < -b ∨ b < n) ∧ ∀ H', Same H H' → Q (.bl true) H'
theorem ok__law_refused (T : Env K mg) : FnOk P w K mg base (L2.CX P w) 5 T.a__law_refused T.d__law_refused ["clock", "which", "number"] (sp__law_refused T) := by
  refine T.F__law_refused.okX sc__law_refused (fun vs H Q E h => by obtain ⟨_, _, _, _, _, rfl, _⟩ := h; rfl) (fun cdv A outer s H vs Q E hr h => ?_)
  obtain ⟨a, w', n, b, o, rfl, ⟨dx, ha⟩, hb, hn, hn1, h1⟩ := h
  have hu64 := hu64_of hr
  have G_Clock_init := ok_Clock_init (P := P) (w := w) (base := base) T
  have G_Clock_drift := ok_Clock_drift (P := P) (w := w) (base := base) T
  have G_Clock_span := ok_Clock_span (P := P) (w := w) (base := base) T
  have G_Clock_wait_for := ok_Clock_wait_for (P := P) (w := w) (base := base) T
  refine ⟨_, (pss_cons (ps_try_only rfl rfl ⟨rfl, by decide, .inl T.e_BadArgument.gC⟩ takes0 (fun W pn xe tk po => (pss_one (ps_if (pt_cmpR op_eq (pv 1) pe_int (nomark _)) (pss_one (ps_expr (pe_kS T.M_Clock G_Clock_init (hr.mono (by decide)) rfl T.k_Clock.mgC T.b_Clock_init .nil (fun σ => passAt tk σ) (pa_cons (pv 2) pa_nil)))) (pss_one (ps_if (pt_cmpR op_eq (pv 1) pe_int (nomark _)) (pss_one (ps_expr (pe_mS (pv 0) T.k_Clock.cl T.m_Clock_drift G_Clock_drift (hr.mono (by decide)) T.b_Clock_drift .nil (fun σ => passAt tk σ) (pa_cons (pv 2) pa_nil)))) (pss_one (ps_if (pt_cmpR op_eq (pv 1) pe_int (nomark _)) (pss_one (ps_expr (pe_mS (pv 0) T.k_Clock.cl T.m_Clock_span G_Clock_span (hr.mono (by decide)) T.b_Clock_span .nil (fun σ => passAt tk σ) (pa_cons (pv 2) pa_nil)))) (pss_one (ps_expr (pe_mK (pv 0) T.k_Clock.cl T.m_Clock_wait_for G_Clock_wait_for (hr.mono (by decide)) T.K_Clock_wait_for (fun σ => passAt tk σ) (pa_cons pe_int pa_nil) (pk_cons (pv 2) pk_nil))))))))))) (fun a oe cls d pn hz hf => (pss_one (ps_ret pe_bl))))
      (pss_one (ps_ret pe_bl))), ?_⟩
  refine ⟨_, rfl, rfl, _, rfl, iteD (fun k => ?_) (fun k => ?_)⟩
  · have k : w' = 0 := V.int.inj k
    refine ⟨_, rfl, fun x d nx nd ne => ⟨x, d, n, rfl, upd_same, fun c => absurd c (by have := hn (by omega); omega), fun _ => ⟨true, T.u_BadArgument_BadArgument, fun _ y _ => h1 _ ?_, fun q => Bool.noConfusion q⟩⟩⟩
    intro c u e
    rw [upd_ne (ne_of_none e nx), upd_ne (ne_of_none e nd)]
    exact e
  · have k : ¬ w' = 0 := fun q => k (congrArg V.int q)
    refine ⟨_, rfl, rfl, _, rfl, iteD (fun k2 => ?_) (fun k2 => ?_)⟩
    · have k2 : w' = 1 := V.int.inj k2
      exact ⟨_, rfl, a, dx, _, rfl, ha, ckf_no _ _ (by decide +kernel) (by decide +kernel), _, rfl, a, b, o, n, rfl, ⟨dx, ha⟩, fun c1 c2 => absurd (hn1 k2) (by omega), fun _ => ⟨true, T.u_BadArgument_BadArgument, fun _ y _ => h1 _ (Same.refl H), fun q => Bool.noConfusion q⟩⟩
    · have k2 : ¬ w' = 1 := fun q => k2 (congrArg V.int q)
      have n0 := hn k2
      refine ⟨_, rfl, rfl, _, rfl, iteD (fun k3 => ?_) (fun k3 => ?_)⟩
      · exact ⟨_, rfl, a, dx, _, rfl, ha, ckf_no _ _ (by decide +kernel) (by decide +kernel), _, rfl, a, n, b, o, rfl, ⟨dx, ha⟩, hb, fun c => absurd c (by omega), fun _ => ⟨true, T.u_BadArgument_BadArgument, fun _ y _ => h1 _ (Same.refl H), fun q => Bool.noConfusion q⟩⟩
      · exact ⟨_, rfl, a, dx, _, rfl, ha, ckf_no _ _ (by decide +kernel) (by decide +kernel), _, rfl, rfl, rfl, a, 5, n, b, o, rfl, ⟨dx, ha⟩, hb, fun c => absurd c (by omega), fun _ => ⟨true, T.u_BadArgument_BadArgument, fun _ y _ => h1 _ (Same.refl H), fun q => Bool.noConfusion q⟩⟩
def sp__law_shows (T : Env K mg) : Sp := fun vs H Q E => ∃ (a : Addr) (b o n : Int), vs = [.ref a, .int b, .int o, .int n] ∧ ClockAt T H a b o ∧ 0 ≤ b ∧ -b ≤ o ∧ o ≤ b ∧ 0 ≤ n ∧ ∀ H', Same H H' → Q (.bl true) H'
theorem ok__law_shows (T : Env K mg) : FnOk P w K mg base (L2.CX P w) 5 T.a__law_shows T.d__law_shows ["clock", "limit", "shift", "true"] (sp__law_shows T) := by
  refine T.F__law_shows.okX sc__law_shows (fun vs H Q E h => by obtain ⟨_, _, _, _, rfl, _⟩ := h; rfl) (fun cdv A outer s H vs Q E hr h => ?_)
  obtain ⟨a, b, o, n, rfl, ⟨dx, ha⟩, hb, ho, ho2, hn, h1⟩ := h
  have hu64 := hu64_of hr
  have G_Clock_span := ok_Clock_span (P := P) (w := w) (base := base) T
  have G_Span_contains := ok_Span_contains (P := P) (w := w) (base := base) T
  refine ⟨_, (pss_cons (ps_set (i := 4) sc__law_shows.nd rfl (Or.inl rfl) (pe_meth (pv 0) T.k_Clock.cl T.m_Clock_span G_Clock_span (hr.mono (by decide)) T.b_Clock_span .nil passL (pa_cons (pv 3) pa_nil)))
      (pss_cons (ps_if (PW.pt (pw_or (pt_cmpR op_ne (pe_fld (pv 4) rfl) (pe_op op_sub (pe_op op_add (pv 3) (pv 2)) (pv 1)) (nomark _)) (pw_or (pt_cmpR op_ne (pe_fld (pv 4) rfl) (pe_op op_add (pe_op op_add (pv 3) (pv 2)) (pv 1)) (nomark _)) (pw_or1 (pt_cmpR (op_notInOwn T.k_Span.cl T.m_Span_contains G_Span_contains (hr.mono (by decide)) T.b_Span_contains passL) (pv 3) (pv 4) rfl))))) (pss_one (ps_ret pe_bl)) pss_nil)
      (pss_one (ps_ret (pe_and (pe_cmpR op_eq (pe_fld (pv 0) rfl) (pv 1) (nomark _)) (pe_one (pe_cmpR op_eq (pe_fld (pv 0) rfl) (pv 2) (nomark _)))))))), ?_⟩
  refine ⟨_, rfl, a, dx, _, rfl, ha, ckf_no _ _ (by decide +kernel) (by decide +kernel), _, rfl, a, n, b, o, rfl, ⟨dx, ha⟩, hb, fun _ p H1 s1 np hp => ?_, fun c => absurd c (by omega)⟩
  obtain ⟨d, hd⟩ := id hp
  refine ⟨_, rfl, p, _, _, _, _, rfl, hd, T.k_Span.cl, T.n_Span_low, spf_low _ _, _, rfl, _, rfl, _, _, rfl, rfl, _, rfl, _, _, rfl, rfl, rfl, _, rfl, ifF (by simp) ?_⟩
  refine ⟨_, rfl, p, _, _, _, _, rfl, hd, T.k_Span.cl, T.n_Span_high, spf_high _ _, _, rfl, _, rfl, _, _, rfl, rfl, _, rfl, _, _, rfl, rfl, rfl, _, rfl, ifF (by simp) ?_⟩
  refine ⟨_, rfl, _, rfl, p, _, _, rfl, hd, p, n, n + o - b, n + o + b, rfl, hp, _, rfl, _, rfl, ifF ?_ ?_⟩
  · rw [decide_eq_true (show n + o - b ≤ n by omega), decide_eq_true (show n ≤ n + o + b by omega)]
    rfl
  refine ⟨_, rfl, a, _, _, _, _, rfl, s1 _ _ ha, T.k_Clock.cl, T.n_Clock_bound, ckf_bound _ _, _, rfl, rfl, _, rfl, ifT (by simp) ?_⟩
  refine ⟨_, rfl, a, _, _, _, _, rfl, s1 _ _ ha, T.k_Clock.cl, T.n_Clock_offset, ckf_offset _ _, _, rfl, rfl, ?_⟩
  rw [decide_eq_true rfl]
  exact h1 H1 s1
def spLaw (K : PySem.W.Frag) : Sp := fun vs H Q _ => ∃ (a : Addr) (ns : List Int), vs = [.ref a] ∧ SqL K H a (ns.map V.int) ∧ ns.length ≤ 63 ∧ ∀ H', Q (.bl true) H'
def sp_law (T : Env K mg) : Sp := spLaw K
theorem ok_law (T : Env K mg) : FnOk P w K mg base CX0 6 T.a_law T.d_law ["script"] (sp_law T) := by
  refine T.F_law.ok sc_law (fun vs H Q E h => by obtain ⟨_, _, rfl, _⟩ := h; rfl) (fun cdv A outer s H vs Q E hr h => ?_)
  obtain ⟨a, ns, rfl, hS, hlen, h1⟩ := h
  have hu64 := hu64_of hr
  have G_Clock_init := ok_Clock_init (P := P) (w := w) (base := base) T
  have G__law_refused := ok__law_refused (P := P) (w := w) (base := base) T
  have G__law_shows := ok__law_shows (P := P) (w := w) (base := base) T
  have G__law_cell := ok__law_cell (P := P) (w := w) (base := base) T
  have G__law_number := ok__law_number (P := P) (w := w) (base := base) T
  have G_Clock_drift := ok_Clock_drift (P := P) (w := w) (base := base) T
  have G_Clock_wait_for := ok_Clock_wait_for (P := P) (w := w) (base := base) T
  have G_Span_is_past := ok_Span_is_past (P := P) (w := w) (base := base) T
  have G__law_is_int := ok__law_is_int (P := P) (w := w) (base := base) T
  have G_Clock_span := ok_Clock_span (P := P) (w := w) (base := base) T
  refine ⟨_, (pss_cons (ps_set (i := 1) sc_law.nd rfl (Or.inl rfl) (pe_ix ix_list (pe_lst (pa_cons (pe_op op_mod (pe_callTy call_int1 (by rfl) T.z_int (by decide +kernel) (pa_cons (pe_call G__law_cell (hr.mono (by decide)) rfl T.g__law_cell T.F__law_cell.kp T.b__law_cell .nil passL (pa_cons (pv 0) (pa_cons pe_int pa_nil))) pa_nil)) pe_int) (pa_cons (pe_call G__law_number (hr.mono (by decide)) rfl T.g__law_number T.F__law_number.kp T.b__law_number .nil passL (pa_cons (pe_call G__law_cell (hr.mono (by decide)) rfl T.g__law_cell T.F__law_cell.kp T.b__law_cell .nil passL (pa_cons (pv 0) (pa_cons pe_int pa_nil))) pa_nil)) pa_nil))) (pe_op op_mod (pe_callTy call_int1 (by rfl) T.z_int (by decide +kernel) (pa_cons (pe_call G__law_cell (hr.mono (by decide)) rfl T.g__law_cell T.F__law_cell.kp T.b__law_cell .nil passL (pa_cons (pv 0) (pa_cons pe_int pa_nil))) pa_nil)) pe_int) (fun _ _ => rfl)))
      (pss_cons (ps_set (i := 2) sc_law.nd rfl (Or.inl rfl) (pe_make T.M_Clock G_Clock_init (hr.mono (by decide)) rfl T.k_Clock.mgC T.b_Clock_init .nil passL (pa_cons (pv 1) pa_nil)))
      (pss_cons (ps_if (pt_not (pt_val (pe_call G__law_shows (hr.mono (by decide)) rfl T.g__law_shows T.F__law_shows.kp T.b__law_shows .nil passL (pa_cons (pv 2) (pa_cons (pv 1) (pa_cons pe_int (pa_cons (pe_call G__law_number (hr.mono (by decide)) rfl T.g__law_number T.F__law_number.kp T.b__law_number .nil passL (pa_cons (pe_call G__law_cell (hr.mono (by decide)) rfl T.g__law_cell T.F__law_cell.kp T.b__law_cell .nil passL (pa_cons (pv 0) (pa_cons pe_int pa_nil))) pa_nil)) pa_nil))))))) (pss_one (ps_ret pe_bl)) pss_nil)
      (pss_cons (ps_for PassesOwn.never rfl (pi_range2 rfl T.z_range (pa_cons pe_int (pa_cons pe_int pa_nil))) (pg_name (i := 3) sc_law.nd rfl (Or.inl rfl)) (pss_cons (ps_set (i := 4) sc_law.nd rfl (Or.inl rfl) (pe_call G__law_cell (hr.mono (by decide)) rfl T.g__law_cell T.F__law_cell.kp T.b__law_cell .nil passL (pa_cons (pv 0) (pa_cons (pv 3) pa_nil))))
      (pss_cons (ps_set (i := 5) sc_law.nd rfl (Or.inl rfl) (pe_ix ix_list (pe_lst (pa_cons (pv 1) (pa_cons (pe_un un_neg (pv 1)) (pa_cons (pe_op op_sub (pe_op op_mod (pe_callTy call_int1 (by rfl) T.z_int (by decide +kernel) (pa_cons (pv 4) pa_nil)) (pe_op op_add (pe_op op_mul pe_int (pv 1)) pe_int)) (pv 1)) (pa_cons pe_int pa_nil))))) (pe_op op_mod (pe_callTy call_int1 (by rfl) T.z_int (by decide +kernel) (pa_cons (pv 4) pa_nil)) pe_int) (fun _ _ => rfl)))
      (pss_cons (ps_set (i := 6) sc_law.nd rfl (Or.inl rfl) (pe_call G__law_number (hr.mono (by decide)) rfl T.g__law_number T.F__law_number.kp T.b__law_number .nil passL (pa_cons (pe_op op_fdiv (pv 4) pe_int) pa_nil)))
      (pss_cons (ps_expr (pe_meth (pv 2) T.k_Clock.cl T.m_Clock_drift G_Clock_drift (hr.mono (by decide)) T.b_Clock_drift .nil passL (pa_cons (pv 5) pa_nil)))
      (pss_cons (ps_if (PW.pt (pw_or (pt_not (pt_val (pe_call G__law_refused (hr.mono (by decide)) rfl T.g__law_refused T.F__law_refused.kp T.b__law_refused .nil passL (pa_cons (pv 2) (pa_cons pe_int (pa_cons (pe_op op_add (pe_op op_add (pv 1) pe_int) (pe_op op_mod (pe_callTy call_int1 (by rfl) T.z_int (by decide +kernel) (pa_cons (pv 4) pa_nil)) pe_int)) pa_nil)))))) (pw_or1 (pt_not (pt_val (pe_call G__law_refused (hr.mono (by decide)) rfl T.g__law_refused T.F__law_refused.kp T.b__law_refused .nil passL (pa_cons (pv 2) (pa_cons pe_int (pa_cons (pe_op op_sub (pe_op op_sub (pe_un un_neg (pv 1)) pe_int) (pe_op op_mod (pe_callTy call_int1 (by rfl) T.z_int (by decide +kernel) (pa_cons (pv 4) pa_nil)) pe_int)) pa_nil))))))))) (pss_one (ps_ret pe_bl)) pss_nil)
      (pss_cons (ps_if (PW.pt (pw_or (pt_not (pt_val (pe_call G__law_refused (hr.mono (by decide)) rfl T.g__law_refused T.F__law_refused.kp T.b__law_refused .nil passL (pa_cons (pv 2) (pa_cons pe_int (pa_cons (pe_op op_sub (pe_un un_neg pe_int) (pv 6)) pa_nil)))))) (pw_or1 (pt_not (pt_val (pe_call G__law_refused (hr.mono (by decide)) rfl T.g__law_refused T.F__law_refused.kp T.b__law_refused .nil passL (pa_cons (pv 2) (pa_cons pe_int (pa_cons (pe_op op_sub (pe_un un_neg pe_int) (pv 6)) pa_nil))))))))) (pss_one (ps_ret pe_bl)) pss_nil)
      (pss_cons (ps_if (pt_not (pt_val (pe_call G__law_shows (hr.mono (by decide)) rfl T.g__law_shows T.F__law_shows.kp T.b__law_shows .nil passL (pa_cons (pv 2) (pa_cons (pv 1) (pa_cons (pv 5) (pa_cons (pv 6) pa_nil))))))) (pss_one (ps_ret pe_bl)) pss_nil)
      (pss_cons (ps_set (i := 7) sc_law.nd rfl (Or.inl rfl) (pe_op op_add (pv 6) (pe_ix ix_list (pe_lst (pa_cons pe_int (pa_cons pe_int (pa_cons (pv 1) (pa_cons (pe_un un_neg (pv 1)) (pa_cons (pe_op op_sub (pe_op op_mod (pe_callTy call_int1 (by rfl) T.z_int (by decide +kernel) (pa_cons (pv 4) pa_nil)) pe_int) pe_int) pa_nil)))))) (pe_op op_mod (pe_callTy call_int1 (by rfl) T.z_int (by decide +kernel) (pa_cons (pv 4) pa_nil)) pe_int) (fun _ _ => rfl))))
      (pss_cons (ps_set (i := 8) sc_law.nd rfl (Or.inl rfl) (pe_mK (pv 2) T.k_Clock.cl T.m_Clock_wait_for G_Clock_wait_for (hr.mono (by decide)) T.K_Clock_wait_for (fun σ => passAll σ) (pa_cons (pv 7) pa_nil) (pk_cons (pv 6) pk_nil)))
      (pss_cons (ps_if (PW.pt (pw_or (pt_not (pt_val (pe_call G__law_is_int (hr.mono (by decide)) rfl T.g__law_is_int T.F__law_is_int.kp T.b__law_is_int .nil passL (pa_cons (pv 8) pa_nil)))) (pw_or (pt_cmpR op_lt (pv 8) pe_int (nomark _)) (pw_or1 (pt_not (pt_val (pe_meth (pe_meth (pv 2) T.k_Clock.cl T.m_Clock_span G_Clock_span (hr.mono (by decide)) T.b_Clock_span .nil passL (pa_cons (pe_op op_add (pv 6) (pv 8)) pa_nil)) T.k_Span.cl T.m_Span_is_past G_Span_is_past (hr.mono (by decide)) T.b_Span_is_past .nil passL (pa_cons (pv 7) pa_nil)))))))) (pss_one (ps_ret pe_bl)) pss_nil)
      (pss_one (ps_if (PW.pt (pw_and (pt_cmpR op_gt (pv 8) pe_int (nomark _)) (pw_and1 (pt_val (pe_meth (pe_meth (pv 2) T.k_Clock.cl T.m_Clock_span G_Clock_span (hr.mono (by decide)) T.b_Clock_span .nil passL (pa_cons (pe_op op_sub (pe_op op_add (pv 6) (pv 8)) pe_int) pa_nil)) T.k_Span.cl T.m_Span_is_past G_Span_is_past (hr.mono (by decide)) T.b_Span_is_past .nil passL (pa_cons (pv 7) pa_nil)))))) (pss_one (ps_ret pe_bl)) pss_nil)))))))))))))
      (pss_one (ps_ret (pe_call G__law_refused (hr.mono (by decide)) rfl T.g__law_refused T.F__law_refused.kp T.b__law_refused .nil passL (pa_cons (pv 2) (pa_cons pe_int (pa_cons (pe_op op_sub (pe_un un_neg pe_int) (pv 1)) pa_nil)))))))))), ?_⟩
  have c0 := cell_nn ns 0
  have c1 := cell_nn ns 1
  have l0 := lawNum_lt c0
  -- limit
  refine ⟨_, rfl, a, ns, 0, rfl, hS, by decide, .inl ⟨_, rfl, _, _, rfl, rfl, by show (0 : Int) < _; decide, _, rfl, a, ns, 0, rfl, hS, by decide, _, rfl, c0, fun H1 s1 => ⟨(by show 2 ≤ sizeLine; decide), fun p np => ?_⟩⟩⟩
  obtain ⟨b, hb, hidx⟩ : ∃ b : Int, 0 ≤ b ∧ atI [V.int (cell ns 0 % 41), V.int (lawNum (cell ns 0))] (cell ns 1 % 2) = some (V.int b) := by
    obtain ⟨j, hj, e⟩ : ∃ j : Nat, j < 2 ∧ cell ns 1 % 2 = (j : Int) := ⟨(cell ns 1 % 2).toNat, by omega, by omega⟩
    rw [e]
    match j, hj with
    | 0, _ => exact ⟨_, by omega, atI_nat (j := 0) rfl⟩
    | 1, _ => exact ⟨_, l0.1, atI_nat (j := 1) rfl⟩
  have s2 := s1.trans (same_new (o := .lst [.int (cell ns 0 % 41), .int (lawNum (cell ns 0))]) np)
  refine ⟨_, rfl, a, ns, 1, rfl, s2.seq hS, by decide, .inl ⟨_, rfl, _, _, rfl, rfl, by show (0 : Int) < _; decide, p, _, _, _, rfl, rfl, SqL.of upd_same, hidx, ?_⟩⟩
  -- clock
  refine ⟨_, rfl, fun c dc nc ndc nec => ⟨c, dc, b, rfl, upd_same, fun _ H3 hc k3 => ⟨rfl, ?_⟩, fun q => absurd q (by omega)⟩⟩
  have s3 := s2.trans (Same.made nc ndc k3)
  have hcn : H c = none := s2.free nc
  refine ⟨_, rfl, _, rfl, _, rfl, a, ns, 1, rfl, s3.seq hS, by decide, _, rfl, c1, fun H4 s4 => ⟨c, b, 0, _, rfl, hc.same s4, hb, by omega, hb, (lawNum_lt c1).1, fun H5 s5 => ⟨_, rfl, ifF rfl ?_⟩⟩⟩
  have s45 := s4.trans s5
  -- the loop
  refine ⟨2, 10, rfl, ⟨by decide, by decide, by decide, by decide⟩, for_range (lo := 2) (n := 8) (fun i σ H' => ∃ v3 v4 v5 v6 v7 v8 o, σ = [some (.ref a), some (.int b), some (.ref c), v3, v4, v5, v6, v7, v8] ∧ Same H H' ∧ ClockAt T H' c b o) ⟨none, none, none, none, none, none, 0, rfl, s3.trans s45, hc.same s45⟩ ?_ ?_⟩
  · rintro i σ HA hi ⟨v3, v4, v5, v6, v7, v8, o0, rfl, sA, hcA⟩
    refine ⟨_, rfl, _, rfl, a, ns, _, rfl, sA.seq hS, by omega, ?_⟩
    have cn := cell_nn ns (2 + (i : Int))
    generalize cell ns (2 + (i : Int)) = z at cn
    -- shift
    refine ⟨_, rfl, _, rfl, _, rfl, _, rfl, .inl ⟨_, rfl, _, rfl, _, _, rfl, rfl, .inl ⟨by decide, by decide⟩, _, _, rfl, rfl, _, _, rfl, rfl, (by show (0 : Int) < 2 * b + 1; omega), _, rfl, _, _, rfl, rfl, (by show 4 ≤ sizeLine; decide), fun q nq => ?_⟩⟩
    obtain ⟨o, ho, ho2, hix⟩ : ∃ o : Int, -b ≤ o ∧ o ≤ b ∧ atI [V.int b, V.int (-b), V.int (z % (2 * b + 1) - b), V.int 0] (z % 4) = some (V.int o) := by
      have hm := Int.emod_nonneg z (show 2 * b + 1 ≠ 0 by omega)
      have hm2 := Int.emod_lt_of_pos z (show 0 < 2 * b + 1 by omega)
      obtain ⟨j, hj, e⟩ : ∃ j : Nat, j < 4 ∧ z % 4 = (j : Int) := ⟨(z % 4).toNat, by omega, by omega⟩
      rw [e]
      match j, hj with
      | 0, _ => exact ⟨b, by omega, by omega, atI_nat (j := 0) rfl⟩
      | 1, _ => exact ⟨-b, by omega, by omega, atI_nat (j := 1) rfl⟩
      | 2, _ => exact ⟨z % (2 * b + 1) - b, by omega, by omega, atI_nat (j := 2) rfl⟩
      | 3, _ => exact ⟨0, by omega, by omega, atI_nat (j := 3) rfl⟩
    refine ⟨_, rfl, .inl ⟨_, rfl, _, _, rfl, rfl, by show (0 : Int) < _; decide, q, _, _, _, rfl, rfl, SqL.of upd_same, hix, ?_⟩⟩
    have sq : Same HA _ := same_new (o := .lst [V.int b, V.int (-b), V.int (z % (2 * b + 1) - b), V.int 0]) nq
    -- true
    refine ⟨_, rfl, _, _, rfl, rfl, ⟨by decide, by decide⟩, _, rfl, by omega, fun HB sB => ?_⟩
    have tn := (lawNum_lt (show 0 ≤ z / 4 by omega)).1
    generalize lawNum (z / 4) = t at tn
    have hcB := hcA.same (sq.trans sB)
    obtain ⟨dB, hdB⟩ := id hcB
    -- clock.drift(shift)
    refine ⟨_, rfl, c, dB, _, rfl, hdB, ckf_no _ _ (by decide +kernel) (by decide +kernel), _, rfl, c, b, o0, o, rfl, hcB, fun _ _ HC hcC kC => ?_, fun q => absurd q (by omega)⟩
    have sC : Same H HC := same_but (sA.trans (sq.trans sB)) hcn kC
    refine ⟨_, rfl, _, rfl, _, _, rfl, rfl, _, rfl, .inl ⟨_, rfl, _, _, rfl, rfl, by show (0 : Int) < _; decide, _, _, rfl, rfl, c, 1, _, b, o, rfl, hcC, hb, fun q => absurd rfl q, fun _ => .inr (by show b < b + 1 + z % 9; omega), fun HD sD => ⟨_, rfl, ifF rfl ?_⟩⟩⟩
    have hcD := hcC.same sD
    refine ⟨_, rfl, _, rfl, _, rfl, _, _, rfl, rfl, _, rfl, .inl ⟨_, rfl, _, _, rfl, rfl, by show (0 : Int) < _; decide, _, _, rfl, rfl, c, 1, _, b, o, rfl, hcD, hb, fun q => absurd rfl q, fun _ => .inl (by show -b - 1 - z % 9 < -b; omega), fun HE sE => ⟨_, rfl, ifF rfl ?_⟩⟩⟩
    have hcE := hcD.same sE
    refine ⟨_, rfl, _, rfl, _, rfl, _, _, rfl, rfl, c, 2, _, b, o, rfl, hcE, hb, fun _ => by show -1 - t < 0; omega, fun q => absurd q (by decide), fun HF sF => ⟨_, rfl, ifF rfl ?_⟩⟩
    have hcF := hcE.same sF
    refine ⟨_, rfl, _, rfl, _, rfl, _, _, rfl, rfl, c, 3, _, b, o, rfl, hcF, hb, fun _ => by show -1 - t < 0; omega, fun q => absurd q (by decide), fun HG sG => ⟨_, rfl, ifF rfl ?_⟩⟩
    have hcG := hcF.same sG
    refine ⟨_, rfl, _, rfl, _, rfl, _, rfl, c, b, o, t, rfl, hcG, hb, ho, ho2, tn, fun HI sI => ⟨_, rfl, ifF rfl ?_⟩⟩
    have hcI := hcG.same sI
    have sCI := (((sD.trans sE).trans sF).trans sG).trans sI
    -- time
    refine ⟨_, rfl, _, rfl, _, rfl, _, rfl, _, rfl, .inl ⟨_, rfl, _, _, rfl, rfl, by show (0 : Int) < _; decide, _, _, rfl, rfl, (by show 5 ≤ sizeLine; decide), fun r nr => ?_⟩⟩
    obtain ⟨x, hx⟩ : ∃ x : Int, atI [V.int 0, V.int 1, V.int b, V.int (-b), V.int (z % 77 - 20)] (z % 5) = some (V.int x) := by
      obtain ⟨j, hj, e⟩ : ∃ j : Nat, j < 5 ∧ z % 5 = (j : Int) := ⟨(z % 5).toNat, by omega, by omega⟩
      rw [e]
      match j, hj with
      | 0, _ => exact ⟨_, atI_nat (j := 0) rfl⟩
      | 1, _ => exact ⟨_, atI_nat (j := 1) rfl⟩
      | 2, _ => exact ⟨_, atI_nat (j := 2) rfl⟩
      | 3, _ => exact ⟨_, atI_nat (j := 3) rfl⟩
      | 4, _ => exact ⟨_, atI_nat (j := 4) rfl⟩
    have sJ := same_new (o := .lst [V.int 0, V.int 1, V.int b, V.int (-b), V.int (z % 77 - 20)]) nr
    refine ⟨_, rfl, .inl ⟨_, rfl, _, _, rfl, rfl, by show (0 : Int) < _; decide, r, _, _, _, rfl, rfl, SqL.of upd_same, hx, _, _, rfl, rfl, ?_⟩⟩
    have hcJ := hcI.same sJ
    obtain ⟨dJ, hdJ⟩ := id hcJ
    -- wait
    refine ⟨_, rfl, c, dJ, _, rfl, hdJ, ckf_no _ _ (by decide +kernel) (by decide +kernel), _, rfl, _, rfl, rfl, rfl, c, t + x, t, b, o, rfl, hcJ, hb, fun _ HK sK => ?_, fun q => absurd q (by omega)⟩
    have hcK := hcJ.same sK
    obtain ⟨dK, hdK⟩ := id hcK
    have wn : 0 ≤ waitOf (t + x) t b o := by unfold waitOf; split <;> omega
    have wp : t + x < t + waitOf (t + x) t b o + o - b := by unfold waitOf; split <;> omega
    have wl : 0 < waitOf (t + x) t b o → ¬ t + x < t + waitOf (t + x) t b o - 1 + o - b := by unfold waitOf; split <;> omega
    generalize waitOf (t + x) t b o = wt at wn wp wl
    refine ⟨_, rfl, wt, rfl, _, rfl, ifF rfl ?_⟩
    refine ⟨_, rfl, _, _, rfl, rfl, _, rfl, ifF (decide_eq_false (by omega)) ?_⟩
    refine ⟨_, rfl, c, dK, _, rfl, hdK, ckf_no _ _ (by decide +kernel) (by decide +kernel), _, rfl, _, rfl, _, _, rfl, rfl, c, t + wt, b, o, rfl, hcK, hb, fun _ p HL sL np2 hp => ?_, fun q => absurd q (by omega)⟩
    obtain ⟨dp, hdp⟩ := id hp
    refine ⟨p, dp, _, rfl, hdp, spf_no _ _ (by decide +kernel) (by decide +kernel), _, rfl, p, t + x, _, _, rfl, hp, _, rfl, ifF ?_ ?_⟩
    · rw [decide_eq_true (by omega)]
      rfl
    have hcL := hcK.same sL
    obtain ⟨dL, hdL⟩ := id hcL
    have sCL := ((sCI.trans sJ).trans sK).trans sL
    refine ⟨_, rfl, _, _, rfl, rfl, _, rfl, iteD (fun k => ?_) (fun k => ifF rfl ⟨_, _, _, _, _, _, o, rfl, sC.trans sCL, hcL⟩)⟩
    refine ⟨_, rfl, c, dL, _, rfl, hdL, ckf_no _ _ (by decide +kernel) (by decide +kernel), _, rfl, _, rfl, _, _, rfl, rfl, _, _, rfl, rfl, c, t + wt - 1, b, o, rfl, hcL, hb, fun _ p HM sM np2 hp => ?_, fun q => absurd q (by omega)⟩
    obtain ⟨dp, hdp⟩ := id hp
    refine ⟨p, dp, _, rfl, hdp, spf_no _ _ (by decide +kernel) (by decide +kernel), _, rfl, p, t + x, _, _, rfl, hp, _, rfl, ifF (decide_eq_false (by have := wl k; omega)) ?_⟩
    exact ⟨_, _, _, _, _, _, o, rfl, (sC.trans sCL).trans sM, hcL.same sM⟩
  rintro σ HA ⟨v3, v4, v5, v6, v7, v8, o, rfl, sA, hcA⟩
  exact ⟨_, rfl, _, rfl, _, rfl, _, _, rfl, rfl, c, 0, _, b, o, rfl, hcA, hb, fun _ => by show -1 - b < 0; omega, fun q => absurd q (by decide), fun HB sB => h1 _⟩

end
theorem all_mk {l : PySem.W.OpenLaw} {w : World} {K : PySem.W.Frag} {h : Heap} {mg : Str → Option Value} {fa C_MeridianError C_BadArgument C_Span C_Clock f_Span_init f_Span_contains f_Span_is_past f_Clock_init f_Clock_drift f_Clock_span f_Clock_wait_for f__check_true_time f__law_cell f__law_is_int f__law_number f__law_refused f__law_shows f_law : Addr} (X : K.In h) (G : h.Ns mainGlobals mg) (hfa : mg "law" = some (.ref fa))
    {od_Span_init an_Span_init : Option Addr} {sl_Span_init : Array (Option Value)} {oc_Span_init kV_Span_init dc_Span_init pm_Span_init cd_Span_init ct_Span_init : Value}
    {od_Span_contains an_Span_contains : Option Addr} {sl_Span_contains : Array (Option Value)} {oc_Span_contains kV_Span_contains dc_Span_contains pm_Span_contains cd_Span_contains ct_Span_contains : Value}
    {od_Span_is_past an_Span_is_past : Option Addr} {sl_Span_is_past : Array (Option Value)} {oc_Span_is_past kV_Span_is_past dc_Span_is_past pm_Span_is_past cd_Span_is_past ct_Span_is_past : Value}
    {od_Clock_init an_Clock_init : Option Addr} {sl_Clock_init : Array (Option Value)} {oc_Clock_init kV_Clock_init dc_Clock_init pm_Clock_init cd_Clock_init ct_Clock_init : Value}
    {od_Clock_drift an_Clock_drift : Option Addr} {sl_Clock_drift : Array (Option Value)} {oc_Clock_drift kV_Clock_drift dc_Clock_drift pm_Clock_drift cd_Clock_drift ct_Clock_drift : Value}
    {od_Clock_span an_Clock_span : Option Addr} {sl_Clock_span : Array (Option Value)} {oc_Clock_span kV_Clock_span dc_Clock_span pm_Clock_span cd_Clock_span ct_Clock_span : Value}
    {od_Clock_wait_for an_Clock_wait_for : Option Addr} {sl_Clock_wait_for : Array (Option Value)} {oc_Clock_wait_for kV_Clock_wait_for dc_Clock_wait_for pm_Clock_wait_for cd_Clock_wait_for ct_Clock_wait_for : Value}
    {od__check_true_time an__check_true_time : Option Addr} {sl__check_true_time : Array (Option Value)} {oc__check_true_time kV__check_true_time dc__check_true_time pm__check_true_time cd__check_true_time ct__check_true_time : Value}
    {od__law_cell an__law_cell : Option Addr} {sl__law_cell : Array (Option Value)} {oc__law_cell kV__law_cell dc__law_cell pm__law_cell cd__law_cell ct__law_cell : Value}
    {od__law_is_int an__law_is_int : Option Addr} {sl__law_is_int : Array (Option Value)} {oc__law_is_int kV__law_is_int dc__law_is_int pm__law_is_int cd__law_is_int ct__law_is_int : Value}
    {od__law_number an__law_number : Option Addr} {sl__law_number : Array (Option Value)} {oc__law_number kV__law_number dc__law_number pm__law_number cd__law_number ct__law_number : Value}
    {od__law_refused an__law_refused : Option Addr} {sl__law_refused : Array (Option Value)} {oc__law_refused kV__law_refused dc__law_refused pm__law_refused cd__law_refused ct__law_refused : Value}
    {od__law_shows an__law_shows : Option Addr} {sl__law_shows : Array (Option Value)} {oc__law_shows kV__law_shows dc__law_shows pm__law_shows cd__law_shows ct__law_shows : Value}
    {od_law an_law : Option Addr} {sl_law : Array (Option Value)} {oc_law kV_law dc_law pm_law cd_law ct_law : Value}
    (mg_MeridianError : PySem.W.nsIn K mainGlobals "MeridianError" = some (some (.ref C_MeridianError)))
    (x_MeridianError : PySem.W.excIn K C_MeridianError [.type "ValueError", .type "Exception", .type "BaseException", .type "object"] "ValueError.__new__" = true)
    (kc_MeridianError : PySem.W.keepIn K (.ref C_MeridianError) = true)
    (bp_MeridianError : PySem.W.subIn K (.ref C_MeridianError) (.type "BaseException") = some true)
    (tp_MeridianError : PySem.W.typeIn K (.ref C_MeridianError) = some (.type "type"))
    (ip_MeridianError : PySem.W.isClsIn K C_MeridianError = true)
    (ga_MeridianError : PySem.W.findIn K (.ref C_MeridianError) "__getattribute__" = some (some (.builtin "BaseException.__getattribute__")))
    (gt_MeridianError : PySem.W.findIn K (.ref C_MeridianError) "__getattr__" = some none)
    (hd_MeridianError : PySem.W.hasDictIn K C_MeridianError = true)
    (ca_MeridianError : PySem.W.findIn K (.ref C_MeridianError) "__class__" = some (some (.builtin "object.__class__")))
    (mo_MeridianError : PySem.W.mroIn K C_MeridianError (.type "object") = some true)
    (ve_MeridianError : PySem.W.subIn K (.ref C_MeridianError) (.type "ValueError") = some true)
    (u_MeridianError_MeridianError : PySem.W.subIn K (.ref C_MeridianError) (.ref C_MeridianError) = some true)
    (u_MeridianError_BadArgument : PySem.W.subIn K (.ref C_MeridianError) (.ref C_BadArgument) = some false)
    (mg_BadArgument : PySem.W.nsIn K mainGlobals "BadArgument" = some (some (.ref C_BadArgument)))
    (x_BadArgument : PySem.W.excIn K C_BadArgument [.type "ValueError", .type "Exception", .type "BaseException", .type "object"] "ValueError.__new__" = true)
    (kc_BadArgument : PySem.W.keepIn K (.ref C_BadArgument) = true)
    (bp_BadArgument : PySem.W.subIn K (.ref C_BadArgument) (.type "BaseException") = some true)
    (tp_BadArgument : PySem.W.typeIn K (.ref C_BadArgument) = some (.type "type"))
    (ip_BadArgument : PySem.W.isClsIn K C_BadArgument = true)
    (ga_BadArgument : PySem.W.findIn K (.ref C_BadArgument) "__getattribute__" = some (some (.builtin "BaseException.__getattribute__")))
    (gt_BadArgument : PySem.W.findIn K (.ref C_BadArgument) "__getattr__" = some none)
    (hd_BadArgument : PySem.W.hasDictIn K C_BadArgument = true)
    (ca_BadArgument : PySem.W.findIn K (.ref C_BadArgument) "__class__" = some (some (.builtin "object.__class__")))
    (mo_BadArgument : PySem.W.mroIn K C_BadArgument (.type "object") = some true)
    (ve_BadArgument : PySem.W.subIn K (.ref C_BadArgument) (.type "ValueError") = some true)
    (u_BadArgument_MeridianError : PySem.W.subIn K (.ref C_BadArgument) (.ref C_MeridianError) = some true)
    (u_BadArgument_BadArgument : PySem.W.subIn K (.ref C_BadArgument) (.ref C_BadArgument) = some true)
    (cn : PySem.W.specialIn K (.builtin "object.__class__") "__get__" = some (some (.builtin "getset_descriptor.__get__")))
    (ct : PySem.W.takesIn K (.builtin "object.__class__") = some true)
    (mg_Span : PySem.W.nsIn K mainGlobals "Span" = some (some (.ref C_Span)))
    (pg_Span : PySem.W.plainGet K C_Span Str.empty = true)
    (hd_Span : PySem.W.hasDictIn K C_Span = true)
    (po_Span : PySem.W.plainOver K C_Span = true)
    (sa_Span : PySem.W.findIn K (.ref C_Span) "__setattr__" = some (some (.builtin "object.__setattr__")))
    (mk_Span : PySem.W.makesIn K C_Span = true)
    (kc_Span : PySem.W.keepIn K (.ref C_Span) = true)
    (ca_Span : PySem.W.findIn K (.ref C_Span) "__class__" = some (some (.builtin "object.__class__")))
    (mo_Span : PySem.W.mroIn K C_Span (.type "object") = some true)
    (na_Span_low : PySem.W.findIn K (.ref C_Span) "low" = some none)
    (na_Span_high : PySem.W.findIn K (.ref C_Span) "high" = some none)
    (mg_Clock : PySem.W.nsIn K mainGlobals "Clock" = some (some (.ref C_Clock)))
    (pg_Clock : PySem.W.plainGet K C_Clock Str.empty = true)
    (hd_Clock : PySem.W.hasDictIn K C_Clock = true)
    (po_Clock : PySem.W.plainOver K C_Clock = true)
    (sa_Clock : PySem.W.findIn K (.ref C_Clock) "__setattr__" = some (some (.builtin "object.__setattr__")))
    (mk_Clock : PySem.W.makesIn K C_Clock = true)
    (kc_Clock : PySem.W.keepIn K (.ref C_Clock) = true)
    (ca_Clock : PySem.W.findIn K (.ref C_Clock) "__class__" = some (some (.builtin "object.__class__")))
    (mo_Clock : PySem.W.mroIn K C_Clock (.type "object") = some true)
    (na_Clock_bound : PySem.W.findIn K (.ref C_Clock) "bound" = some none)
    (na_Clock_offset : PySem.W.findIn K (.ref C_Clock) "offset" = some none)
    (a_Span_init : PySem.W.findIn K (.ref C_Span) "__init__" = some (some (.ref f_Span_init)))
    (i_Span_init : PySem.W.isFn K (.ref f_Span_init) = true)
    (l_Span_init : K.lookup f_Span_init = some ⟨oc_Span_init, od_Span_init, .func (PySem.W.fnOf "__init__" "Span.__init__" (defArgs s_Span_init) (defBody s_Span_init) (defScope s_Span_init) .none kV_Span_init dc_Span_init pm_Span_init an_Span_init cd_Span_init ct_Span_init), sl_Span_init⟩)
    (c_Span_init : PySem.W.codeIn K cd_Span_init "Span.__init__" = true)
    (k_Span_init : PySem.W.keepIn K (.ref f_Span_init) = true)
    (a_Span_contains : PySem.W.findIn K (.ref C_Span) "__contains__" = some (some (.ref f_Span_contains)))
    (i_Span_contains : PySem.W.isFn K (.ref f_Span_contains) = true)
    (l_Span_contains : K.lookup f_Span_contains = some ⟨oc_Span_contains, od_Span_contains, .func (PySem.W.fnOf "__contains__" "Span.__contains__" (defArgs s_Span_contains) (defBody s_Span_contains) (defScope s_Span_contains) .none kV_Span_contains dc_Span_contains pm_Span_contains an_Span_contains cd_Span_contains ct_Span_contains), sl_Span_contains⟩)
    (c_Span_contains : PySem.W.codeIn K cd_Span_contains "Span.__contains__" = true)
    (k_Span_contains : PySem.W.keepIn K (.ref f_Span_contains) = true)
    (a_Span_is_past : PySem.W.findIn K (.ref C_Span) "is_past" = some (some (.ref f_Span_is_past)))
    (i_Span_is_past : PySem.W.isFn K (.ref f_Span_is_past) = true)
    (l_Span_is_past : K.lookup f_Span_is_past = some ⟨oc_Span_is_past, od_Span_is_past, .func (PySem.W.fnOf "is_past" "Span.is_past" (defArgs s_Span_is_past) (defBody s_Span_is_past) (defScope s_Span_is_past) .none kV_Span_is_past dc_Span_is_past pm_Span_is_past an_Span_is_past cd_Span_is_past ct_Span_is_past), sl_Span_is_past⟩)
    (c_Span_is_past : PySem.W.codeIn K cd_Span_is_past "Span.is_past" = true)
    (k_Span_is_past : PySem.W.keepIn K (.ref f_Span_is_past) = true)
    (a_Clock_init : PySem.W.findIn K (.ref C_Clock) "__init__" = some (some (.ref f_Clock_init)))
    (i_Clock_init : PySem.W.isFn K (.ref f_Clock_init) = true)
    (l_Clock_init : K.lookup f_Clock_init = some ⟨oc_Clock_init, od_Clock_init, .func (PySem.W.fnOf "__init__" "Clock.__init__" (defArgs s_Clock_init) (defBody s_Clock_init) (defScope s_Clock_init) .none kV_Clock_init dc_Clock_init pm_Clock_init an_Clock_init cd_Clock_init ct_Clock_init), sl_Clock_init⟩)
    (c_Clock_init : PySem.W.codeIn K cd_Clock_init "Clock.__init__" = true)
    (k_Clock_init : PySem.W.keepIn K (.ref f_Clock_init) = true)
    (a_Clock_drift : PySem.W.findIn K (.ref C_Clock) "drift" = some (some (.ref f_Clock_drift)))
    (i_Clock_drift : PySem.W.isFn K (.ref f_Clock_drift) = true)
    (l_Clock_drift : K.lookup f_Clock_drift = some ⟨oc_Clock_drift, od_Clock_drift, .func (PySem.W.fnOf "drift" "Clock.drift" (defArgs s_Clock_drift) (defBody s_Clock_drift) (defScope s_Clock_drift) .none kV_Clock_drift dc_Clock_drift pm_Clock_drift an_Clock_drift cd_Clock_drift ct_Clock_drift), sl_Clock_drift⟩)
    (c_Clock_drift : PySem.W.codeIn K cd_Clock_drift "Clock.drift" = true)
    (k_Clock_drift : PySem.W.keepIn K (.ref f_Clock_drift) = true)
    (a_Clock_span : PySem.W.findIn K (.ref C_Clock) "span" = some (some (.ref f_Clock_span)))
    (i_Clock_span : PySem.W.isFn K (.ref f_Clock_span) = true)
    (l_Clock_span : K.lookup f_Clock_span = some ⟨oc_Clock_span, od_Clock_span, .func (PySem.W.fnOf "span" "Clock.span" (defArgs s_Clock_span) (defBody s_Clock_span) (defScope s_Clock_span) .none kV_Clock_span dc_Clock_span pm_Clock_span an_Clock_span cd_Clock_span ct_Clock_span), sl_Clock_span⟩)
    (c_Clock_span : PySem.W.codeIn K cd_Clock_span "Clock.span" = true)
    (k_Clock_span : PySem.W.keepIn K (.ref f_Clock_span) = true)
    (a_Clock_wait_for : PySem.W.findIn K (.ref C_Clock) "wait_for" = some (some (.ref f_Clock_wait_for)))
    (i_Clock_wait_for : PySem.W.isFn K (.ref f_Clock_wait_for) = true)
    (l_Clock_wait_for : K.lookup f_Clock_wait_for = some ⟨oc_Clock_wait_for, od_Clock_wait_for, .func (PySem.W.fnOf "wait_for" "Clock.wait_for" (defArgs s_Clock_wait_for) (defBody s_Clock_wait_for) (defScope s_Clock_wait_for) .none kV_Clock_wait_for dc_Clock_wait_for pm_Clock_wait_for an_Clock_wait_for cd_Clock_wait_for ct_Clock_wait_for), sl_Clock_wait_for⟩)
    (c_Clock_wait_for : PySem.W.codeIn K cd_Clock_wait_for "Clock.wait_for" = true)
    (k_Clock_wait_for : PySem.W.keepIn K (.ref f_Clock_wait_for) = true)
    (a__check_true_time : PySem.W.nsIn K mainGlobals "_check_true_time" = some (some (.ref f__check_true_time)))
    (l__check_true_time : K.lookup f__check_true_time = some ⟨oc__check_true_time, od__check_true_time, .func (PySem.W.fnOf "_check_true_time" "_check_true_time" (defArgs s__check_true_time) (defBody s__check_true_time) (defScope s__check_true_time) .none kV__check_true_time dc__check_true_time pm__check_true_time an__check_true_time cd__check_true_time ct__check_true_time), sl__check_true_time⟩)
    (c__check_true_time : PySem.W.codeIn K cd__check_true_time "_check_true_time" = true)
    (k__check_true_time : PySem.W.keepIn K (.ref f__check_true_time) = true)
    (a__law_cell : PySem.W.nsIn K mainGlobals "_law_cell" = some (some (.ref f__law_cell)))
    (l__law_cell : K.lookup f__law_cell = some ⟨oc__law_cell, od__law_cell, .func (PySem.W.fnOf "_law_cell" "_law_cell" (defArgs s__law_cell) (defBody s__law_cell) (defScope s__law_cell) .none kV__law_cell dc__law_cell pm__law_cell an__law_cell cd__law_cell ct__law_cell), sl__law_cell⟩)
    (c__law_cell : PySem.W.codeIn K cd__law_cell "_law_cell" = true)
    (k__law_cell : PySem.W.keepIn K (.ref f__law_cell) = true)
    (a__law_is_int : PySem.W.nsIn K mainGlobals "_law_is_int" = some (some (.ref f__law_is_int)))
    (l__law_is_int : K.lookup f__law_is_int = some ⟨oc__law_is_int, od__law_is_int, .func (PySem.W.fnOf "_law_is_int" "_law_is_int" (defArgs s__law_is_int) (defBody s__law_is_int) (defScope s__law_is_int) .none kV__law_is_int dc__law_is_int pm__law_is_int an__law_is_int cd__law_is_int ct__law_is_int), sl__law_is_int⟩)
    (c__law_is_int : PySem.W.codeIn K cd__law_is_int "_law_is_int" = true)
    (k__law_is_int : PySem.W.keepIn K (.ref f__law_is_int) = true)
    (a__law_number : PySem.W.nsIn K mainGlobals "_law_number" = some (some (.ref f__law_number)))
    (l__law_number : K.lookup f__law_number = some ⟨oc__law_number, od__law_number, .func (PySem.W.fnOf "_law_number" "_law_number" (defArgs s__law_number) (defBody s__law_number) (defScope s__law_number) .none kV__law_number dc__law_number pm__law_number an__law_number cd__law_number ct__law_number), sl__law_number⟩)
    (c__law_number : PySem.W.codeIn K cd__law_number "_law_number" = true)
    (k__law_number : PySem.W.keepIn K (.ref f__law_number) = true)
    (a__law_refused : PySem.W.nsIn K mainGlobals "_law_refused" = some (some (.ref f__law_refused)))
    (l__law_refused : K.lookup f__law_refused = some ⟨oc__law_refused, od__law_refused, .func (PySem.W.fnOf "_law_refused" "_law_refused" (defArgs s__law_refused) (defBody s__law_refused) (defScope s__law_refused) .none kV__law_refused dc__law_refused pm__law_refused an__law_refused cd__law_refused ct__law_refused), sl__law_refused⟩)
    (c__law_refused : PySem.W.codeIn K cd__law_refused "_law_refused" = true)
    (k__law_refused : PySem.W.keepIn K (.ref f__law_refused) = true)
    (a__law_shows : PySem.W.nsIn K mainGlobals "_law_shows" = some (some (.ref f__law_shows)))
    (l__law_shows : K.lookup f__law_shows = some ⟨oc__law_shows, od__law_shows, .func (PySem.W.fnOf "_law_shows" "_law_shows" (defArgs s__law_shows) (defBody s__law_shows) (defScope s__law_shows) .none kV__law_shows dc__law_shows pm__law_shows an__law_shows cd__law_shows ct__law_shows), sl__law_shows⟩)
    (c__law_shows : PySem.W.codeIn K cd__law_shows "_law_shows" = true)
    (k__law_shows : PySem.W.keepIn K (.ref f__law_shows) = true)
    (a_law : PySem.W.nsIn K mainGlobals "law" = some (some (.ref f_law)))
    (l_law : K.lookup f_law = some ⟨oc_law, od_law, .func (PySem.W.fnOf "law" "law" (defArgs s_law) (defBody s_law) (defScope s_law) .none kV_law dc_law pm_law an_law cd_law ct_law), sl_law⟩)
    (c_law : PySem.W.codeIn K cd_law "law" = true)
    (k_law : PySem.W.keepIn K (.ref f_law) = true)
    (z_max : PySem.W.nsIn K mainGlobals "max" = some none)
    (z_len : PySem.W.nsIn K mainGlobals "len" = some none)
    (z_abs : PySem.W.nsIn K mainGlobals "abs" = some none)
    (z_int : PySem.W.nsIn K mainGlobals "int" = some none)
    (z_isinstance : PySem.W.nsIn K mainGlobals "isinstance" = some none)
    (z_bool : PySem.W.nsIn K mainGlobals "bool" = some none)
    (z_range : PySem.W.nsIn K mainGlobals "range" = some none) :
    ∃ fd : FuncData, (∀ (s : Shared) (v : Value), BindsTo s fd ⟨[v], []⟩ [("script", v)]) ∧ ∀ base : Heap, K.In base → base.Ns mainGlobals mg → FnOk l.prog w K mg base CX0 6 fa fd ["script"] (spLaw K) := by
  have e : f_law = fa := (Value.ref.inj (Option.some.inj (hfa.symm.trans (PySem.W.mg_of X G a_law)))).symm
  subst e
  let T : Env K mg := {
    c_MeridianError := C_MeridianError,
    c_BadArgument := C_BadArgument,
    a_Span := C_Span,
    a_Clock := C_Clock,
    a_Span_init := f_Span_init,
    d_Span_init := _,
    F_Span_init := fun_mk (st := s_Span_init) l_Span_init c_Span_init k_Span_init,
    b_Span_init := (fun_mk (st := s_Span_init) l_Span_init c_Span_init k_Span_init).binds (ps := ["self", "low", "high"]) fun _ _ _ _ _ _ us hl => match us, hl with | [_, _, _], _ => rfl,
    a_Span_contains := f_Span_contains,
    d_Span_contains := _,
    F_Span_contains := fun_mk (st := s_Span_contains) l_Span_contains c_Span_contains k_Span_contains,
    b_Span_contains := (fun_mk (st := s_Span_contains) l_Span_contains c_Span_contains k_Span_contains).binds (ps := ["self", "time"]) fun _ _ _ _ _ _ us hl => match us, hl with | [_, _], _ => rfl,
    a_Span_is_past := f_Span_is_past,
    d_Span_is_past := _,
    F_Span_is_past := fun_mk (st := s_Span_is_past) l_Span_is_past c_Span_is_past k_Span_is_past,
    b_Span_is_past := (fun_mk (st := s_Span_is_past) l_Span_is_past c_Span_is_past k_Span_is_past).binds (ps := ["self", "time"]) fun _ _ _ _ _ _ us hl => match us, hl with | [_, _], _ => rfl,
    a_Clock_init := f_Clock_init,
    d_Clock_init := _,
    F_Clock_init := fun_mk (st := s_Clock_init) l_Clock_init c_Clock_init k_Clock_init,
    b_Clock_init := (fun_mk (st := s_Clock_init) l_Clock_init c_Clock_init k_Clock_init).binds (ps := ["self", "bound"]) fun _ _ _ _ _ _ us hl => match us, hl with | [_, _], _ => rfl,
    a_Clock_drift := f_Clock_drift,
    d_Clock_drift := _,
    F_Clock_drift := fun_mk (st := s_Clock_drift) l_Clock_drift c_Clock_drift k_Clock_drift,
    b_Clock_drift := (fun_mk (st := s_Clock_drift) l_Clock_drift c_Clock_drift k_Clock_drift).binds (ps := ["self", "offset"]) fun _ _ _ _ _ _ us hl => match us, hl with | [_, _], _ => rfl,
    a_Clock_span := f_Clock_span,
    d_Clock_span := _,
    F_Clock_span := fun_mk (st := s_Clock_span) l_Clock_span c_Clock_span k_Clock_span,
    b_Clock_span := (fun_mk (st := s_Clock_span) l_Clock_span c_Clock_span k_Clock_span).binds (ps := ["self", "now"]) fun _ _ _ _ _ _ us hl => match us, hl with | [_, _], _ => rfl,
    a_Clock_wait_for := f_Clock_wait_for,
    d_Clock_wait_for := _,
    F_Clock_wait_for := fun_mk (st := s_Clock_wait_for) l_Clock_wait_for c_Clock_wait_for k_Clock_wait_for,
    K_Clock_wait_for := ⟨fun s us ws _ h1 h2 => match us, ws, h1, h2 with | [_, _], [_], _, _ => .of_eq rfl, fun r1 r2 => r1.append r2⟩,
    a__check_true_time := f__check_true_time,
    d__check_true_time := _,
    F__check_true_time := fun_mk (st := s__check_true_time) l__check_true_time c__check_true_time k__check_true_time,
    b__check_true_time := (fun_mk (st := s__check_true_time) l__check_true_time c__check_true_time k__check_true_time).binds (ps := ["now"]) fun _ _ _ _ _ _ us hl => match us, hl with | [_], _ => rfl,
    g__check_true_time := PySem.W.mg_of X G a__check_true_time,
    a__law_cell := f__law_cell,
    d__law_cell := _,
    F__law_cell := fun_mk (st := s__law_cell) l__law_cell c__law_cell k__law_cell,
    b__law_cell := (fun_mk (st := s__law_cell) l__law_cell c__law_cell k__law_cell).binds (ps := ["script", "k"]) fun _ _ _ _ _ _ us hl => match us, hl with | [_, _], _ => rfl,
    g__law_cell := PySem.W.mg_of X G a__law_cell,
    a__law_is_int := f__law_is_int,
    d__law_is_int := _,
    F__law_is_int := fun_mk (st := s__law_is_int) l__law_is_int c__law_is_int k__law_is_int,
    b__law_is_int := (fun_mk (st := s__law_is_int) l__law_is_int c__law_is_int k__law_is_int).binds (ps := ["thing"]) fun _ _ _ _ _ _ us hl => match us, hl with | [_], _ => rfl,
    g__law_is_int := PySem.W.mg_of X G a__law_is_int,
    a__law_number := f__law_number,
    d__law_number := _,
    F__law_number := fun_mk (st := s__law_number) l__law_number c__law_number k__law_number,
    b__law_number := (fun_mk (st := s__law_number) l__law_number c__law_number k__law_number).binds (ps := ["cell"]) fun _ _ _ _ _ _ us hl => match us, hl with | [_], _ => rfl,
    g__law_number := PySem.W.mg_of X G a__law_number,
    a__law_refused := f__law_refused,
    d__law_refused := _,
    F__law_refused := fun_mk (st := s__law_refused) l__law_refused c__law_refused k__law_refused,
    b__law_refused := (fun_mk (st := s__law_refused) l__law_refused c__law_refused k__law_refused).binds (ps := ["clock", "which", "number"]) fun _ _ _ _ _ _ us hl => match us, hl with | [_, _, _], _ => rfl,
    g__law_refused := PySem.W.mg_of X G a__law_refused,
    a__law_shows := f__law_shows,
    d__law_shows := _,
    F__law_shows := fun_mk (st := s__law_shows) l__law_shows c__law_shows k__law_shows,
    b__law_shows := (fun_mk (st := s__law_shows) l__law_shows c__law_shows k__law_shows).binds (ps := ["clock", "limit", "shift", "true"]) fun _ _ _ _ _ _ us hl => match us, hl with | [_, _, _, _], _ => rfl,
    g__law_shows := PySem.W.mg_of X G a__law_shows,
    a_law := f_law,
    d_law := _,
    F_law := fun_mk (st := s_law) l_law c_law k_law,
    b_law := (fun_mk (st := s_law) l_law c_law k_law).binds (ps := ["script"]) fun _ _ _ _ _ _ us hl => match us, hl with | [_], _ => rfl,
    e_MeridianError := ⟨PySem.W.mg_of X G mg_MeridianError, x_MeridianError, kc_MeridianError, bp_MeridianError, tp_MeridianError, ip_MeridianError, ⟨ga_MeridianError, gt_MeridianError, bp_MeridianError, hd_MeridianError, ca_MeridianError, cn, ct, mo_MeridianError⟩, kit_ty_sub ve_MeridianError (by decide +kernel)⟩,
    u_MeridianError_MeridianError := PySem.W.exm_ref bp_MeridianError hd_MeridianError tp_MeridianError u_MeridianError_MeridianError,
    q_MeridianError_MeridianError := kit_own u_MeridianError_MeridianError u_MeridianError_MeridianError ip_MeridianError tp_MeridianError,
    u_MeridianError_BadArgument := PySem.W.exm_ref bp_BadArgument hd_BadArgument tp_BadArgument u_MeridianError_BadArgument,
    q_MeridianError_BadArgument := kit_own u_MeridianError_BadArgument u_MeridianError_MeridianError ip_BadArgument tp_BadArgument,
    e_BadArgument := ⟨PySem.W.mg_of X G mg_BadArgument, x_BadArgument, kc_BadArgument, bp_BadArgument, tp_BadArgument, ip_BadArgument, ⟨ga_BadArgument, gt_BadArgument, bp_BadArgument, hd_BadArgument, ca_BadArgument, cn, ct, mo_BadArgument⟩, kit_ty_sub ve_BadArgument (by decide +kernel)⟩,
    u_BadArgument_MeridianError := PySem.W.exm_ref bp_MeridianError hd_MeridianError tp_MeridianError u_BadArgument_MeridianError,
    q_BadArgument_MeridianError := kit_own u_BadArgument_MeridianError u_BadArgument_BadArgument ip_MeridianError tp_MeridianError,
    u_BadArgument_BadArgument := PySem.W.exm_ref bp_BadArgument hd_BadArgument tp_BadArgument u_BadArgument_BadArgument,
    q_BadArgument_BadArgument := kit_own u_BadArgument_BadArgument u_BadArgument_BadArgument ip_BadArgument tp_BadArgument,
    k_Span := ⟨⟨pg_Span, hd_Span, po_Span, sa_Span⟩, PySem.W.mg_of X G mg_Span, ca_Span, cn, ct, mo_Span⟩,
    n_Span_low := na_Span_low,
    n_Span_high := na_Span_high,
    M_Span := ⟨mk_Span, a_Span_init, i_Span_init, kc_Span⟩,
    m_Span_contains := ⟨a_Span_contains, i_Span_contains, k_Span_contains⟩,
    m_Span_is_past := ⟨a_Span_is_past, i_Span_is_past, k_Span_is_past⟩,
    k_Clock := ⟨⟨pg_Clock, hd_Clock, po_Clock, sa_Clock⟩, PySem.W.mg_of X G mg_Clock, ca_Clock, cn, ct, mo_Clock⟩,
    n_Clock_bound := na_Clock_bound,
    n_Clock_offset := na_Clock_offset,
    M_Clock := ⟨mk_Clock, a_Clock_init, i_Clock_init, kc_Clock⟩,
    m_Clock_drift := ⟨a_Clock_drift, i_Clock_drift, k_Clock_drift⟩,
    m_Clock_span := ⟨a_Clock_span, i_Clock_span, k_Clock_span⟩,
    m_Clock_wait_for := ⟨a_Clock_wait_for, i_Clock_wait_for, k_Clock_wait_for⟩,
    z_max := PySem.W.mg_none_of X G z_max,
    z_len := PySem.W.mg_none_of X G z_len,
    z_abs := PySem.W.mg_none_of X G z_abs,
    z_int := PySem.W.mg_none_of X G z_int,
    z_isinstance := PySem.W.mg_none_of X G z_isinstance,
    z_bool := PySem.W.mg_none_of X G z_bool,
    z_range := PySem.W.mg_none_of X G z_range }
  exact ⟨PySem.W.fnOf "law" "law" (defArgs s_law) (defBody s_law) (defScope s_law) .none kV_law dc_law pm_law an_law cd_law ct_law, fun s v => .of_eq rfl, fun base _ _ => ok_law T⟩
theorem walk {l : PySem.W.OpenLaw} {q : Program} {loose : List Str} {XP : (Str → Option Value) → Heap → Prop} {YP : World → Heap → Prop} {d : DefRec} {K : Params → PySem.W.Frag} (hn : l.most = some 63) (hdf : d.params.defaults = [])
    (hY : ∀ (w : World) (h : Heap), YP w h → (K w.params).In h)
    (F : ∀ (w : World) (mg : Str → Option Value) (fa : Addr) (h : Heap), (K w.params).In h → h.Ns mainGlobals mg → mg d.name = some (.ref fa) →
      ∃ fd : FuncData, (∀ (s : Shared) (u : Value), BindsTo s fd ⟨[u], []⟩ [("script", u)]) ∧ ∀ base : Heap, (K w.params).In base → base.Ns mainGlobals mg → FnOk l.prog w (K w.params) mg base CX0 6 fa fd ["script"] (spLaw (K w.params))) :
    PySem.W.WalkO q loose XP YP l.row.toRowW d [] (fun f vs => PySem.call f vs) :=
  L2.walk_of (n := 63) (k := 6) (x := "script") (CX := fun _ => CX0) (sp := fun w => spLaw (K w.params)) hn (by decide) hdf ⟨rfl, by decide, by decide⟩ hY F (fun _ _ a ns hl _ hS => ⟨a, ns, rfl, hS, hl, fun _ => rfl⟩) fun _ _ _ _ _ z => z
end Dv
open PySem PySem.W PyProof.Rows in
set_option maxRecDepth 100000 in
set_option maxHeartbeats 0 in
theorem PySem.Challenge.cw_meridian_k07_clocks_within_bound_holds : PySem.Challenge.rw_meridian_k07_clocks_within_bound.Holds := by
  w_on; o_law; k_head; (case hw => w_witness2)
  k_fill
  refine Dv.walk (l := PySem.Challenge.rw_meridian_k07_clocks_within_bound) rfl rfl (fun w h Y => PySem.W.kIn_of Y) ?F
  case F =>
    intro w mg fa h KX G hmg
    refine' Dv.all_mk KX G hmg ?mg_MeridianError ?x_MeridianError ?kc_MeridianError ?bp_MeridianError ?tp_MeridianError ?ip_MeridianError ?ga_MeridianError ?gt_MeridianError ?hd_MeridianError ?ca_MeridianError ?mo_MeridianError ?ve_MeridianError ?u_MeridianError_MeridianError ?u_MeridianError_BadArgument ?mg_BadArgument ?x_BadArgument ?kc_BadArgument ?bp_BadArgument ?tp_BadArgument ?ip_BadArgument ?ga_BadArgument ?gt_BadArgument ?hd_BadArgument ?ca_BadArgument ?mo_BadArgument ?ve_BadArgument ?u_BadArgument_MeridianError ?u_BadArgument_BadArgument ?cn ?ct ?mg_Span ?pg_Span ?hd_Span ?po_Span ?sa_Span ?mk_Span ?kc_Span ?ca_Span ?mo_Span ?na_Span_low ?na_Span_high ?mg_Clock ?pg_Clock ?hd_Clock ?po_Clock ?sa_Clock ?mk_Clock ?kc_Clock ?ca_Clock ?mo_Clock ?na_Clock_bound ?na_Clock_offset ?a_Span_init ?i_Span_init ?l_Span_init ?c_Span_init ?k_Span_init ?a_Span_contains ?i_Span_contains ?l_Span_contains ?c_Span_contains ?k_Span_contains ?a_Span_is_past ?i_Span_is_past ?l_Span_is_past ?c_Span_is_past ?k_Span_is_past ?a_Clock_init ?i_Clock_init ?l_Clock_init ?c_Clock_init ?k_Clock_init ?a_Clock_drift ?i_Clock_drift ?l_Clock_drift ?c_Clock_drift ?k_Clock_drift ?a_Clock_span ?i_Clock_span ?l_Clock_span ?c_Clock_span ?k_Clock_span ?a_Clock_wait_for ?i_Clock_wait_for ?l_Clock_wait_for ?c_Clock_wait_for ?k_Clock_wait_for ?a__check_true_time ?l__check_true_time ?c__check_true_time ?k__check_true_time ?a__law_cell ?l__law_cell ?c__law_cell ?k__law_cell ?a__law_is_int ?l__law_is_int ?c__law_is_int ?k__law_is_int ?a__law_number ?l__law_number ?c__law_number ?k__law_number ?a__law_refused ?l__law_refused ?c__law_refused ?k__law_refused ?a__law_shows ?l__law_shows ?c__law_shows ?k__law_shows ?a_law ?l_law ?c_law ?k_law ?z_max ?z_len ?z_abs ?z_int ?z_isinstance ?z_bool ?z_range
    (case mg_MeridianError => k_is)
    (case mg_BadArgument => k_is)
    (case mg_Span => k_is)
    (case mg_Clock => k_is)
    (case a_Span_init => k_is)
    (case a_Span_contains => k_is)
    (case a_Span_is_past => k_is)
    (case a_Clock_init => k_is)
    (case a_Clock_drift => k_is)
    (case a_Clock_span => k_is)
    (case a_Clock_wait_for => k_is)
    (case a__check_true_time => k_is)
    (case a__law_cell => k_is)
    (case a__law_is_int => k_is)
    (case a__law_number => k_is)
    (case a__law_refused => k_is)
    (case a__law_shows => k_is)
    (case a_law => k_is)
    (case x_MeridianError => k_exc)
    (case kc_MeridianError => k_is)
    (case bp_MeridianError => k_is)
    (case tp_MeridianError => k_is)
    (case ip_MeridianError => k_is)
    (case ga_MeridianError => k_is)
    (case gt_MeridianError => k_is)
    (case hd_MeridianError => k_is)
    (case ca_MeridianError => k_is)
    (case mo_MeridianError => k_is)
    (case ve_MeridianError => k_is)
    (case u_MeridianError_MeridianError => k_is)
    (case u_MeridianError_BadArgument => k_is)
    (case x_BadArgument => k_exc)
    (case kc_BadArgument => k_is)
    (case bp_BadArgument => k_is)
    (case tp_BadArgument => k_is)
    (case ip_BadArgument => k_is)
    (case ga_BadArgument => k_is)
    (case gt_BadArgument => k_is)
    (case hd_BadArgument => k_is)
    (case ca_BadArgument => k_is)
    (case mo_BadArgument => k_is)
    (case ve_BadArgument => k_is)
    (case u_BadArgument_MeridianError => k_is)
    (case u_BadArgument_BadArgument => k_is)
    (case cn => k_is)
    (case ct => k_is)
    (case pg_Span => k_is)
    (case hd_Span => k_is)
    (case po_Span => k_is)
    (case sa_Span => k_is)
    (case mk_Span => k_is)
    (case kc_Span => k_is)
    (case ca_Span => k_is)
    (case mo_Span => k_is)
    (case na_Span_low => k_is)
    (case na_Span_high => k_is)
    (case pg_Clock => k_is)
    (case hd_Clock => k_is)
    (case po_Clock => k_is)
    (case sa_Clock => k_is)
    (case mk_Clock => k_is)
    (case kc_Clock => k_is)
    (case ca_Clock => k_is)
    (case mo_Clock => k_is)
    (case na_Clock_bound => k_is)
    (case na_Clock_offset => k_is)
    (case i_Span_init => k_is)
    (case l_Span_init => k_is)
    (case c_Span_init => k_is)
    (case k_Span_init => k_is)
    (case i_Span_contains => k_is)
    (case l_Span_contains => k_is)
    (case c_Span_contains => k_is)
    (case k_Span_contains => k_is)
    (case i_Span_is_past => k_is)
    (case l_Span_is_past => k_is)
    (case c_Span_is_past => k_is)
    (case k_Span_is_past => k_is)
    (case i_Clock_init => k_is)
    (case l_Clock_init => k_is)
    (case c_Clock_init => k_is)
    (case k_Clock_init => k_is)
    (case i_Clock_drift => k_is)
    (case l_Clock_drift => k_is)
    (case c_Clock_drift => k_is)
    (case k_Clock_drift => k_is)
    (case i_Clock_span => k_is)
    (case l_Clock_span => k_is)
    (case c_Clock_span => k_is)
    (case k_Clock_span => k_is)
    (case i_Clock_wait_for => k_is)
    (case l_Clock_wait_for => k_is)
    (case c_Clock_wait_for => k_is)
    (case k_Clock_wait_for => k_is)
    (case l__check_true_time => k_is)
    (case c__check_true_time => k_is)
    (case k__check_true_time => k_is)
    (case l__law_cell => k_is)
    (case c__law_cell => k_is)
    (case k__law_cell => k_is)
    (case l__law_is_int => k_is)
    (case c__law_is_int => k_is)
    (case k__law_is_int => k_is)
    (case l__law_number => k_is)
    (case c__law_number => k_is)
    (case k__law_number => k_is)
    (case l__law_refused => k_is)
    (case c__law_refused => k_is)
    (case k__law_refused => k_is)
    (case l__law_shows => k_is)
    (case c__law_shows => k_is)
    (case k__law_shows => k_is)
    (case l_law => k_is)
    (case c_law => k_is)
    (case k_law => k_is)
    (case z_max => k_is)
    (case z_len => k_is)
    (case z_abs => k_is)
    (case z_int => k_is)
    (case z_isinstance => k_is)
    (case z_bool => k_is)
    (case z_range => k_is)
