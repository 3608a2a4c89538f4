import PyProof.Rows.All
import Wide.All
import OpenK.AllK
import Wide.FinOn
import HandS.ForExc
import HandS.ForMost
import HandS.IsInst
import HandS.ExcIs
import HandS.Wide
import HandS.CallSlots
import HandS.Property
import HandS.Defaults
import HandS.MakeKwOnly
import HandS.TupAny
import PyProof.DelItemList
import PyProof.MeetsSeq
import HandS.LawCells
import PySem.Challenge.RW_meridian_k13_notes_replayed
set_option Elab.async false
set_option linter.all false
set_option maxRecDepth 100000
set_option maxHeartbeats 4000000
namespace Dv
open PySem PySem.Spec PyProof.Rows L2
def top (i : Nat) : Stmt := PySem.Challenge.pw_meridian_k13_notes_replayed.main.body.getD i (.Pass ⟨0, 0, 0, 0⟩)
abbrev s_replay : Stmt := (top 5)
theorem sc_replay : FnScope ["notes", "state", "term", "vote"] ["notes"] (defScope s_replay) := ⟨rfl, rfl, rfl, by decide +kernel, rfl, by decide +kernel, by decide +kernel⟩
abbrev s_state_after : Stmt := (top 6)
theorem sc_state_after : FnScope ["notes", "state", "note"] ["notes"] (defScope s_state_after) := ⟨rfl, rfl, rfl, by decide +kernel, rfl, by decide +kernel, by decide +kernel⟩
abbrev s_DurableState_init : Stmt := (inClass (top 7) 0)
theorem sc_DurableState_init : FnScope ["self"] ["self"] (defScope s_DurableState_init) := ⟨rfl, rfl, rfl, by decide +kernel, rfl, by decide +kernel, by decide +kernel⟩
abbrev s_DurableState_take : Stmt := (inClass (top 7) 1)
theorem sc_DurableState_take : FnScope ["self", "note"] ["self", "note"] (defScope s_DurableState_take) := ⟨rfl, rfl, rfl, by decide +kernel, rfl, by decide +kernel, by decide +kernel⟩
abbrev s_DurableState_take_ballot : Stmt := (inClass (top 7) 2)
theorem sc_DurableState_take_ballot : FnScope ["self", "term", "vote", "present", "chosen"] ["self", "term", "vote"] (defScope s_DurableState_take_ballot) := ⟨rfl, rfl, rfl, by decide +kernel, rfl, by decide +kernel, by decide +kernel⟩
abbrev s_DurableState_take_promise : Stmt := (inClass (top 7) 3)
theorem sc_DurableState_take_promise : FnScope ["self", "until"] ["self", "until"] (defScope s_DurableState_take_promise) := ⟨rfl, rfl, rfl, by decide +kernel, rfl, by decide +kernel, by decide +kernel⟩
abbrev s_DurableState_take_entry : Stmt := (inClass (top 7) 4)
theorem sc_DurableState_take_entry : FnScope ["self", "index", "term", "record"] ["self", "index", "term", "record"] (defScope s_DurableState_take_entry) := ⟨rfl, rfl, rfl, by decide +kernel, rfl, by decide +kernel, by decide +kernel⟩
abbrev s__law_cell : Stmt := (top 9)
theorem sc__law_cell : FnScope ["script", "k"] ["script", "k"] (defScope s__law_cell) := ⟨rfl, rfl, rfl, by decide +kernel, rfl, by decide +kernel, by decide +kernel⟩
abbrev s__law_is_int : Stmt := (top 10)
theorem sc__law_is_int : FnScope ["thing"] ["thing"] (defScope s__law_is_int) := ⟨rfl, rfl, rfl, by decide +kernel, rfl, by decide +kernel, by decide +kernel⟩
abbrev s__law_apply : Stmt := (top 11)
theorem sc__law_apply : FnScope ["state", "note", "term", "vote", "entries"] ["state", "note"] (defScope s__law_apply) := ⟨rfl, rfl, rfl, by decide +kernel, rfl, by decide +kernel, by decide +kernel⟩
abbrev s__law_change : Stmt := (top 12)
theorem sc__law_change : FnScope ["cell", "state", "kind", "at"] ["cell", "state"] (defScope s__law_change) := ⟨rfl, rfl, rfl, by decide +kernel, rfl, by decide +kernel, by decide +kernel⟩
abbrev s__law_refused : Stmt := (top 13)
theorem sc__law_refused : FnScope ["notes"] ["notes"] (defScope s__law_refused) := ⟨rfl, rfl, rfl, by decide +kernel, rfl, by decide +kernel, by decide +kernel⟩
abbrev s_law : Stmt := (top 14)
theorem sc_law : FnScope ["script", "state", "notes", "k", "note", "after", "given", "actual"] ["script"] (defScope s_law) := ⟨rfl, rfl, rfl, by decide +kernel, rfl, by decide +kernel, by decide +kernel⟩
theorem kit_own {K : PySem.W.Frag} {C E : Addr} {b : Bool} (h : PySem.W.subIn K (.ref C) (.ref E) = some b) (hs : PySem.W.subIn K (.ref C) (.ref C) = some true) (hc : PySem.W.isClsIn K E = true) (ht : PySem.W.typeIn K (.ref E) = some (.type "type")) :
    PySem.W.kitOne K (.ref C) (.ref E) = some b := by
  unfold PySem.W.kitOne
  by_cases e : (Value.ref C == Value.ref E) = true
  · rw [if_pos e]
    have e' : Value.ref C = Value.ref E := by simpa using e
    rw [← e', hs] at h
    exact h
  · rw [if_neg e]
    show (if ((PySem.W.clsIn K E).isSome && PySem.W.typeIn K (.ref E) == some (.type "type")) = true then PySem.W.subIn K (.ref C) (.ref E) else none) = some b
    have hc' : (PySem.W.clsIn K E).isSome = true := hc
    rw [hc', ht, if_pos (by rfl)]
    exact h
theorem kit_ty_sub {K : PySem.W.Frag} {C : Addr} {T : String} {b : Bool} (h : PySem.W.subIn K (.ref C) (.type T) = some b) (hm : PySem.W.kitMeta T = true) : PySem.W.kitOne K (.ref C) (.type T) = some b := by
  unfold PySem.W.kitOne
  rw [if_neg (by simp)]
  show (if PySem.W.kitMeta T = true then PySem.W.subIn K (.ref C) (.type T) else none) = some b
  rw [if_pos hm]
  exact h
/-- isinstance(e, c), isinstance(e, (c1, ..)): e the exception that the suite holds, of whatever class -/
def rIsG (K : PySem.W.Frag) (cls : Value) (d : Option Addr) (a : Addr) : List V → Hp → VK → Prop := fun xs H Q => ∃ (D : Addr) (b : Bool), cls = .ref D ∧ d = none ∧ ExcC K D ∧
  ((∃ (c : V) (cv : Value), xs = [.ref a, c] ∧ ClsV c cv ∧ PySem.W.kitOne K (.ref D) cv = some b ∧ Q (.bl b) H) ∨
   ∃ (tp : Addr) (cs : List V) (us : List Value), xs = [.ref a, .ref tp] ∧ H tp = some (.tup cs) ∧ Paired ClsV cs us ∧ PySem.W.kitAny K (.ref D) us = some b ∧ Q (.bl b) H)
theorem call_isG {X : Cx} {a : Addr} {cls : Value} {d : Option Addr} {oe : Obj} {pn : List (Addr × Obj)} (hz : Zc cls d oe) (hf : ∃ vs, oe.data = .fields vs) : CallR (X.suite a ((a, oe) :: pn)) (.builtin "isinstance") (rIsG X.K cls d a) := by
  intro pins s σ H xs us Q I r h
  obtain ⟨D, b, rfl, rfl, C, h⟩ := h
  rcases h with ⟨c, cv, rfl, hcv, e, q⟩ | ⟨tp, cs, ws, rfl, hT, k, e, q⟩
  · exact call_isE C hz hf pins s σ H _ us Q I r ⟨c, cv, b, rfl, fun u ru => hcv.eq ru, e, q⟩
  · obtain ⟨u1, u2, rfl, r1, r2⟩ := vals2 r
    cases (show u2 = Value.ref tp from r2)
    cases (show u1 = Value.ref a from r1)
    obtain ⟨hget, _⟩ := I.pin (a, oe) (List.mem_append.mpr (.inl List.mem_cons_self))
    obtain ⟨vs, hv⟩ := hf
    have J : PySem.W.InstAt s.heap a oe D none := by
      obtain ⟨oc, od, oda, osl⟩ := oe
      obtain ⟨h1, h2⟩ := hz
      dsimp only at h1 h2 hv
      subst h1 h2 hv
      exact ⟨hget, rfl, rfl, trivial⟩
    obtain ⟨_, its, rv, o, h1, h2, n, h3⟩ := (show ObjOk X.prog X.w H s.heap tp (.tup cs) from I.hok tp _ hT)
    have e3 := ClsV.all k rv
    subst e3
    obtain ⟨oc, od, dt, sl⟩ := o
    simp only at h2 h3
    subst h2 h3
    exact PySem.W.kia_tup (PySem.W.handS_kitx_exc C.hg C.hk C.hs C.hd C.ha C.hn C.ht C.hm) I.kIn J h1 e (fun z => nomatch z) fun tk => ⟨.bl b, H, I.kept (t' := tk) fun _ _ z => z, rfl, q⟩
/-- the room that == of data wants -/
theorem hu64_of {A : Around} {k : Nat} (hr : Room k A) : A.units + 64 < cLine := Nat.lt_of_le_of_lt (Nat.le_refl _) hr.units
theorem same_new {H : Hp} {p : Addr} {o : HO} (h : H p = none) : Same H (upd H p o) := fun b x e => by
  rw [upd_ne (ne_of_none e h)]
  exact e
/-- an object unknown before may change -/
theorem same_mut {H H1 : Hp} {p : Addr} {o : HO} (s : Same H H1) (h : H p = none) : Same H (upd H1 p o) := fun b x e => by
  rw [upd_ne (ne_of_none e h)]
  exact s b x e
theorem sql_new {K : PySem.W.Frag} {H : Hp} {p : Addr} {xs : List V} : SqL K (upd H p (.lst xs)) p xs := SqL.of upd_same
theorem same_dp {K : PySem.W.Frag} {H H' : Hp} (s : Same H H') : ∀ (d : PyData) (v : V), Dp K H v d → Dp K H' v d := by
  intro d v h
  exact Dp.rec (motive_1 := fun v d _ => Dp K H' v d) (motive_2 := fun vs ds _ => DpAll K H' vs ds) .non (fun b => .bl b) (fun i => .int i) (fun x => .str x)
    (fun h1 _ ih => .lst (s.seq h1) ih) (fun h1 _ ih => .tup (by rcases h1 with h1 | h1
                                                                 · rcases h1 with h1 | ⟨o, h1⟩
                                                                   · exact .inl (.inl (s _ _ h1))
                                                                   · exact .inl (.inr ⟨o, s _ _ h1⟩)
                                                                 · exact .inr h1) ih) .nil (fun _ _ h1 h2 => .cons h1 h2) h
/-! lists of ints as data -/
def dInts (ns : List Int) : PyData := .list (ns.map PyData.int)
theorem dp_all_ints {K : PySem.W.Frag} {H : Hp} : ∀ ns : List Int, DpAll K H (ns.map V.int) (ns.map PyData.int)
  | [] => .nil
  | n :: r => .cons (.int n) (dp_all_ints r)
theorem dp_ints {K : PySem.W.Frag} {H : Hp} {a : Addr} {ns : List Int} (h : SqL K H a (ns.map V.int)) : Dp K H (.ref a) (dInts ns) := .lst h (dp_all_ints ns)
theorem eqv_ints : ∀ ns ms : List Int, PyData.eqvAll (ns.map PyData.int) (ms.map PyData.int) = decide (ns = ms)
  | [], [] => rfl
  | [], _ :: _ => rfl
  | _ :: _, [] => rfl
  | n :: r, m :: t => by
    show (PyData.eqv (.int n) (.int m) && PyData.eqvAll (r.map PyData.int) (t.map PyData.int)) = _
    rw [eqv_ints r t]
    show ((n == m) && decide (r = t)) = _
    by_cases h : n = m <;> by_cases h2 : r = t <;> simp [h, h2]
theorem eqv_dInts (ns ms : List Int) : PyData.eqv (dInts ns) (dInts ms) = decide (ns = ms) := eqv_ints ns ms
theorem canLay_ints : ∀ ns : List Int, (PyData.list (ns.map PyData.int)).canLay0 = true → True := fun _ _ => trivial
theorem ifT {c : Bool} {A B : Prop} (hc : c = true) (h : A) : if c = true then A else B := by
  rw [if_pos hc]
  exact h
theorem ifF {c : Bool} {A B : Prop} (hc : c = false) (h : B) : if c = true then A else B := by
  rw [hc, if_neg Bool.false_ne_true]
  exact h
/-- both ways of an if over a decided comparison -/
theorem iteD {p : Prop} [Decidable p] {A B : Prop} (h1 : p → A) (h2 : ¬ p → B) : if decide p = true then A else B := by
  by_cases h : p
  · rw [if_pos (decide_eq_true h)]
    exact h1 h
  · rw [if_neg (by simpa using h)]
    exact h2 h
theorem iteN {p : Prop} [Decidable p] {A B : Prop} (h1 : ¬ p → A) (h2 : p → B) : if (!decide p) = true then A else B := by
  by_cases h : p
  · rw [if_neg (by simpa using h)]
    exact h2 h
  · rw [if_pos (by simpa using h)]
    exact h1 h
theorem yes_if {σ : L2.St} {H : Hp} {A B : Hp → Prop} (h : A H) : tYes σ H (fun b H3 => if b = true then A H3 else B H3) := by
  show (if true = true then A H else B H)
  rw [if_pos rfl]
  exact h
abbrev Li (H : Hp) (p : Addr) (ns : List Int) : Prop := H p = some (.lst (ns.map V.int))
theorem szl {n : Nat} (h : n ≤ 1000000) : n < sizeLine := Nat.lt_of_le_of_lt h (by decide)
theorem szle {n : Nat} (h : n ≤ 1000000) : n ≤ sizeLine := Nat.le_of_lt (szl h)
theorem mem_int {ns : List Int} {i : Nat} {x : V} (hx : (ns.map V.int)[i]? = some x) : ∃ n, ns[i]? = some n ∧ x = V.int n := by
  rw [List.getElem?_map] at hx
  cases e : ns[i]? with
  | none => rw [e] at hx; cases hx
  | some u => rw [e] at hx; exact ⟨u, rfl, (Option.some.inj hx).symm⟩
theorem li_push {H : Hp} {p : Addr} {ns : List Int} {n : Int} : Li (upd H p (.lst (ns.map V.int ++ [V.int n]))) p (ns ++ [n]) := by
  show upd _ _ _ _ = _
  rw [upd_same, List.map_append]
  rfl
theorem take_succ {α : Type} {l : List α} {i : Nat} {x : α} (h : l[i]? = some x) : l.take (i + 1) = l.take i ++ [x] := by
  rw [List.take_add_one, h]
  rfl
/-! slices of lists -/
theorem cutV_map {α : Type} (f : α → V) (xs : List α) (lo hi : Option Int) : cutV (xs.map f) lo hi = ((xs.drop (HT.sIx xs.length 0 lo)).take (HT.sIx xs.length xs.length hi - HT.sIx xs.length 0 lo)).map f := by
  unfold cutV
  rw [List.length_map, List.map_take, List.map_drop]
theorem cut_to (xs : List V) (k : Nat) : cutV xs none (some (k : Int)) = xs.take k := by
  unfold cutV
  rw [HT.sIx_none, HT.sIx_nat, List.drop_zero, Nat.sub_zero]
  by_cases h : k ≤ xs.length
  · rw [Nat.min_eq_left h]
  · rw [Nat.min_eq_right (by omega), List.take_of_length_le (Nat.le_refl _), List.take_of_length_le (by omega)]
theorem cut_from (xs : List V) (k : Nat) : cutV xs (some (k : Int)) none = xs.drop k := by
  unfold cutV
  rw [HT.sIx_none, HT.sIx_nat]
  by_cases h : k ≤ xs.length
  · rw [Nat.min_eq_left h]
    exact List.take_of_length_le (by rw [List.length_drop]; exact Nat.le_refl _)
  · rw [Nat.min_eq_right (by omega), List.drop_of_length_le (by omega), List.take_nil, List.drop_of_length_le (by omega)]
theorem cut_fromto (xs : List V) (i j : Nat) : cutV xs (some (i : Int)) (some (j : Int)) = (xs.drop i).take (j - i) := by
  unfold cutV
  rw [HT.sIx_nat, HT.sIx_nat]
  by_cases h : i ≤ xs.length
  · rw [Nat.min_eq_left h]
    by_cases h2 : j ≤ xs.length
    · rw [Nat.min_eq_left h2]
    · rw [Nat.min_eq_right (by omega), List.take_of_length_le (by rw [List.length_drop]; exact Nat.le_refl _), List.take_of_length_le (by rw [List.length_drop]; omega)]
  · rw [show xs.drop (min i xs.length) = [] from List.drop_of_length_le (by omega), List.take_nil, List.drop_of_length_le (by omega), List.take_nil]
theorem sIx_neg (n d k : Nat) (h : 0 < k) : HT.sIx n d (some (-(k : Int))) = n - k := by
  show (if -(k : Int) < 0 then (-(k : Int) + (n : Int)).toNat else _) = _
  rw [if_pos (by omega)]
  omega
theorem cut_ton (xs : List V) (k : Nat) (h : 0 < k) : cutV xs none (some (-(k : Int))) = xs.take (xs.length - k) := by
  unfold cutV
  rw [HT.sIx_none, sIx_neg _ _ _ h, List.drop_zero, Nat.sub_zero]
theorem cut_fromn (xs : List V) (k : Nat) (h : 0 < k) : cutV xs (some (-(k : Int))) none = xs.drop (xs.length - k) := by
  unfold cutV
  rw [HT.sIx_none, sIx_neg _ _ _ h]
  exact List.take_of_length_le (by rw [List.length_drop]; exact Nat.le_refl _)

/-! own rules: methods and makings whose errors depend on the slots (for a try), keywords, an own __contains__ -/
section
variable {X : Cx} {CX : CXT} {k n : Nat} {C f : Addr} {fd : FuncData} {ps ks : List Str} {sp : Sp} {E : L2.St → XK} {dvs : List V} {ds : List Value} {o e : Expr} {es : List Expr} {kws : List Keyword} {m x : Str} {p apos pos : Pos} {ta : TE} {t tk : TA}
  {g : List Value → List Value → List Value} {gV : List V → List V → List V}
theorem run_at {pins : List (Addr × Obj)} {σ : L2.St} {H : Hp} {s : Shared} {Q : VK} {E : XK} {us0 us : List Value} {kw : List (Str × Value)} {vs : List V} (F : FnOk X.prog X.w X.K X.mg X.base CX k f fd ps sp) (hr : Room k X.A) (hx : PassesAt CX X σ E)
    (I : Inv X pins σ H s) (hb : BindsTo s fd ⟨us0, kw⟩ (ps.zip us)) (r : Vals vs us) (h : sp vs H Q E) : wpAny (model X.prog X.w) X.A (call (.ref f) us0 kw) (EP X pins σ Q) X.xe s := by
  refine wpAny_call (codeAny_mono (F.run X.A X.stack s H ⟨us0, kw⟩ us vs Q E hr I.env0 hb r h) fun r s' hq => ?_)
  cases r with
  | error er => exact hx pins H s er s' I hq
  | ok fl => cases fl with
    | ret u => exact I.after hq
    | next => exact hq.elim
    | brk => exact hq.elim
    | cont => exact hq.elim
/-- o.m(e, .., k = v, ..) -/
def tMA (C : Addr) (m : Str) (n l : Nat) (sp : Sp) (gV : List V → List V → List V) (E : L2.St → XK) (ta : TE) (t tk : TA) : TE := fun σ H Q => ta σ H fun x H1 => ∃ a dx fs, x = .ref a ∧ H1 a = some (.ins C dx fs) ∧ fs.lookup m = none ∧
  t σ H1 fun vs H2 => tk σ H2 fun zs H3 => vs.length = n ∧ zs.length = l ∧ sp (gV (x :: vs) zs) H3 Q (E σ)
theorem pe_mK {pl : Sem Bool} (he : PE X o ta) (c : Cls X.K C) (hm : Meth X.K C m f) (F : FnOk X.prog X.w X.K X.mg X.base CX k f fd ps sp) (hr : Room k X.A) (hb : KBn X.K fd ps (n + 1) ks g gV) (hx : ∀ σ, PassesAt CX X σ (E σ)) (ha : PA X (e :: es) t) (hkw : PK X kws tk)
    (hall : (backToKw pos (keywordEach kws X.env)).all (·.1.isSome) = true := by rfl) (hks : (backToKw pos (keywordEach kws X.env)).filterMap (·.1) = ks := by rfl)
    (hst : starEach (e :: es) X.env = (false, eval e X.env) :: starEach es X.env := by rfl) (hpl : ((backTo pos (starEach (e :: es) X.env)).any (·.1) || (backToKw pos (keywordEach kws X.env)).any (·.1.isNone)) = false := by rfl)
    (ht : eval (.Call (.Attribute o m apos) (e :: es) kws pos) X.env = (do
      let ov ← eval o X.env
      standAt apos.atName
      let (f, first) ← holding [ov] (getMethod ov m pl)
      callWith pos f first (backTo pos (starEach (e :: es) X.env)) (backToKw pos (keywordEach kws X.env))) := by rfl) :
    PE X (.Call (.Attribute o m apos) (e :: es) kws pos) (tMA C m n ks.length sp gV E ta t tk) := by
  refine ⟨fun pins s σ H Q I h => PySem.W.methodCall_KW (pl := pl) (thn (he.run pins s σ H _ I h) fun u s1 ⟨x, H1, I1, rx, a, dx, fs, ex, ea, l, q⟩ => ?_) ht⟩
  subst ex
  obtain rfl : u = Value.ref a := rx
  refine getmeth_ok I1 ea c hm l (PySem.W.callWith_KW (first := [.ref a]) (h₀ := X.base) I.ok.mod.kin hm.kp hall (thn (ha.run pos pins s1 σ H1 _ I1 q) fun us s2 ⟨vs, H2, I2, r, q2⟩ => ?_) hpl hst)
  refine thn (hkw.run pos pins s2 σ H2 _ I2 q2) fun ws s3 ⟨zs, H3, I3, rz, l1, l2, q3⟩ => ⟨I3.kIn, ?_⟩
  rw [hks]
  have r1 : Vals (V.ref a :: vs) (Value.ref a :: us) := .cons rfl r
  exact run_at F hr (hx σ) I3 (hb.to s3 (Value.ref a :: us) ws I3.kIn (by rw [List.length_cons, ← r.length, l1]) (rz.length.symm.trans l2)) (hb.rel r1 rz) q3
theorem pe_mK0 {pl : Sem Bool} (he : PE X o ta) (c : Cls X.K C) (hm : Meth X.K C m f) (F : FnOk X.prog X.w X.K X.mg X.base CX k f fd ps sp) (hr : Room k X.A) (hb : KBn X.K fd ps 1 ks g gV) (hx : ∀ σ, PassesAt CX X σ (E σ)) (hkw : PK X kws tk)
    (hall : (backToKw pos (keywordEach kws X.env)).all (·.1.isSome) = true := by rfl) (hks : (backToKw pos (keywordEach kws X.env)).filterMap (·.1) = ks := by rfl)
    (hpl : ((backTo pos (starEach [] X.env)).any (·.1) || (backToKw pos (keywordEach kws X.env)).any (·.1.isNone)) = false := by rfl)
    (ht : eval (.Call (.Attribute o m apos) [] kws pos) X.env = (do
      let ov ← eval o X.env
      standAt apos.atName
      let (f, first) ← holding [ov] (getMethod ov m pl)
      callWith pos f first (backTo pos (starEach [] X.env)) (backToKw pos (keywordEach kws X.env))) := by rfl) :
    PE X (.Call (.Attribute o m apos) [] kws pos) (tMA C m 0 ks.length sp gV E ta tNil tk) := by
  refine ⟨fun pins s σ H Q I h => PySem.W.methodCall_KW (pl := pl) (thn (he.run pins s σ H _ I h) fun u s1 ⟨x, H1, I1, rx, a, dx, fs, ex, ea, l, q⟩ => ?_) ht⟩
  subst ex
  obtain rfl : u = Value.ref a := rx
  refine getmeth_ok I1 ea c hm l (PySem.W.callWith_KW0 (first := [.ref a]) (h₀ := X.base) I.ok.mod.kin hm.kp hall (thn (hkw.run pos pins s1 σ H1 _ I1 q) fun ws s3 ⟨zs, H3, I3, rz, l1, l2, q3⟩ => ⟨I3.kIn, ?_⟩) hpl)
  rw [hks]
  have r1 : Vals ([V.ref a]) ([Value.ref a]) := .cons rfl .nil
  exact run_at F hr (hx σ) I3 (hb.to s3 [Value.ref a] ws I3.kIn rfl (rz.length.symm.trans l2)) (hb.rel r1 rz) q3
/-- o.m(e, ..), the wish of errors by the slots -/
def tMS (C : Addr) (m : Str) (sp : Sp) (dvs : List V) (E : L2.St → XK) (ta : TE) (t : TA) : TE := fun σ H Q => ta σ H fun x H1 => ∃ a dx fs, x = .ref a ∧ H1 a = some (.ins C dx fs) ∧ fs.lookup m = none ∧ t σ H1 fun vs H2 => sp (x :: (vs ++ dvs)) H2 Q (E σ)
theorem pe_mS {pl : Sem Bool} (he : PE X o ta) (c : Cls X.K C) (hm : Meth X.K C m f) (F : FnOk X.prog X.w X.K X.mg X.base CX k f fd ps sp) (hr : Room k X.A) (hb : Binds X.K fd ps ds) (hd : Vals dvs ds) (hx : ∀ σ, PassesAt CX X σ (E σ)) (ha : PA X (e :: es) t)
    (hst : starEach (e :: es) X.env = (false, eval e X.env) :: starEach es X.env := by rfl) (hpl : (backTo pos (starEach es X.env)).any (·.1) = false := by rfl)
    (ht : eval (.Call (.Attribute o m apos) (e :: es) [] pos) X.env = (do
      let ov ← eval o X.env
      standAt apos.atName
      let (f, first) ← holding [ov] (getMethod ov m pl)
      callWith pos f first (backTo pos (starEach (e :: es) X.env)) (backToKw pos (keywordEach [] X.env))) := by rfl) :
    PE X (.Call (.Attribute o m apos) (e :: es) [] pos) (tMS C m sp dvs E ta t) := by
  refine ⟨fun pins s σ H Q I h => PySem.W.methodCall_KW (pl := pl) (thn (he.run pins s σ H _ I h) fun u s1 ⟨x, H1, I1, rx, a, dx, fs, ex, ea, l, q⟩ => ?_) ht⟩
  subst ex
  obtain rfl : u = Value.ref a := rx
  refine getmeth_ok I1 ea c hm l (PySem.W.callWith_K (first := [.ref a]) (h₀ := X.base) I.ok.mod.kin hm.kp (thn (ha.run pos pins s1 σ H1 _ I1 q) fun us s2 ⟨vs, H2, I2, r, q2⟩ => ⟨I2.kIn, ?_⟩) hst hpl)
  have r2 : Vals (V.ref a :: (vs ++ dvs)) (Value.ref a :: us ++ ds) := .cons rfl (r.append hd)
  have hl : (Value.ref a :: us ++ ds).length = ps.length := by rw [← r2.length]; exact F.len _ _ _ _ q2
  exact run_at (us0 := Value.ref a :: us) F hr (hx σ) I2 (hb s2 (Value.ref a :: us) I2.kIn hl) r2 q2
theorem pe_mS0 {pl : Sem Bool} (he : PE X o ta) (c : Cls X.K C) (hm : Meth X.K C m f) (F : FnOk X.prog X.w X.K X.mg X.base CX k f fd ps sp) (hr : Room k X.A) (hb : Binds X.K fd ps ds) (hd : Vals dvs ds) (hx : ∀ σ, PassesAt CX X σ (E σ))
    (ht : eval (.Call (.Attribute o m apos) [] [] pos) X.env = (do
      let ov ← eval o X.env
      standAt apos.atName
      let (f, first) ← holding [ov] (getMethod ov m pl)
      callWith pos f first (backTo pos (starEach [] X.env)) (backToKw pos (keywordEach [] X.env))) := by rfl) :
    PE X (.Call (.Attribute o m apos) [] [] pos) (tMS C m sp dvs E ta tNil) := by
  refine ⟨fun pins s σ H Q I h => PySem.W.methodCall_KW (pl := pl) (thn (he.run pins s σ H _ I h) fun u s1 ⟨x, H1, I1, rx, a, dx, fs, ex, ea, l, q⟩ => ?_) ht⟩
  subst ex
  obtain rfl : u = Value.ref a := rx
  have r2 : Vals (V.ref a :: ([] ++ dvs)) (Value.ref a :: [] ++ ds) := .cons rfl hd
  have hl : (Value.ref a :: [] ++ ds).length = ps.length := by rw [← r2.length]; exact F.len _ _ _ _ q
  refine getmeth_ok I1 ea c hm l (PySem.W.callWith_K0 (first := [.ref a]) I1.kIn hm.kp (run_at (us0 := [Value.ref a]) F hr (hx σ) I1 (hb s1 [Value.ref a] I1.kIn hl) r2 q))
/-- C(e, ..), the wish of errors by the slots -/
def tKS (C : Addr) (sp : Sp) (dvs : List V) (E : L2.St → XK) (t : TA) : TE := fun σ H Q => t σ H fun vs H1 => ∀ x dx, H1 x = none → H1 dx = none → dx ≠ x →
  sp (.ref x :: (vs ++ dvs)) (upd (upd H1 dx (.own x)) x (.ins C dx [])) (fun v H2 => v = .non ∧ Q (.ref x) H2) (E σ)
theorem pe_kS (M : Mk X.K C f) (F : FnOk X.prog X.w X.K X.mg X.base CX k f fd ps sp) (hr : Room (k + 1) X.A) (hg : Gl X x) (hm : X.mg x = some (.ref C)) (hb : Binds X.K fd ps ds) (hd : Vals dvs ds) (hx : ∀ σ, PassesAt CX X σ (E σ)) (ha : PA X (e :: es) t)
    (hdb : (x == ("__debug__" : Str)) = false := by decide) (he : starEach (e :: es) X.env = (false, eval e X.env) :: starEach es X.env := by rfl) (hpl : (backTo pos (starEach es X.env)).any (·.1) = false := by rfl) :
    PE X (.Call (.Name x p) (e :: es) [] pos) (tKS C sp dvs E t) := by
  refine ⟨fun pins s σ H Q I h => wpAny_Call_Name_kw (ld_glob I hg hm (PySem.W.callWith_K (h₀ := X.base) I.ok.mod.kin M.kp (thn (ha.run pos pins s σ H _ I h) fun us s1 ⟨vs, H1, I1, r, q⟩ => ⟨I1.kIn, ?_⟩) he hpl) hdb)⟩
  have hq := q (s1.heap.objs.size + 1) s1.heap.objs.size (I1.hok.fresh (Nat.le_succ _)) (I1.hok.fresh (Nat.le_refl _)) (Nat.ne_of_lt (Nat.lt_succ_self _))
  have I2 := Inv.made (C := C) I1
  have r2 : Vals (V.ref (s1.heap.objs.size + 1) :: (vs ++ dvs)) (Value.ref (s1.heap.objs.size + 1) :: us ++ ds) := .cons rfl (r.append hd)
  have hl : (Value.ref (s1.heap.objs.size + 1) :: us ++ ds).length = ps.length := by rw [← r2.length]; exact F.len _ _ _ _ hq
  refine wpAny_call (make_map (f := f) I1.kIn M.makes M.init (beq_iff_eq.mp M.fn) (codeAny_mono (F.run _ X.stack _ _ ⟨Value.ref (s1.heap.objs.size + 1) :: us, []⟩ (Value.ref (s1.heap.objs.size + 1) :: us ++ ds) _ _ (E σ) (hr.make C us [])
    (I2.env0.make C us []) (hb _ (Value.ref (s1.heap.objs.size + 1) :: us) I2.kIn hl) r2 hq) fun r s' hz => ?_))
  cases r with
  | error er => exact hx σ pins _ _ er s' I2 hz
  | ok fl => cases fl with
    | ret u =>
      obtain ⟨v, H', I3, rv, ev, q3⟩ := I2.after hz
      subst ev
      exact ⟨rv, ⟨V.ref (s1.heap.objs.size + 1), H', I3, rfl, q3⟩⟩
    | next => exact hz.elim
    | brk => exact hz.elim
    | cont => exact hz.elim
theorem passAll {X : Cx} (σ : L2.St) : PassesAt (L2.CX X.prog X.w) X σ E0 := fun pins H s er s' I h => passL pins σ H s er s' I h
/-- y in o, o of a class with its own __contains__ -/
def rInOwn (C : Addr) (sp : Sp) (E : XK) (neg : Bool) : R2 := fun y x H Q => ∃ a dx fs, x = .ref a ∧ H a = some (.ins C dx fs) ∧ sp [.ref a, y] H (fun v H' => ∃ b : Bool, v = .bl b ∧ Q (.bl (b != neg)) H') E
theorem has_own {pins : List (Addr × Obj)} {σ : L2.St} {H : Hp} {s : Shared} {E : XK} {a dx : Addr} {fs : List (Str × V)} {y : V} {v : Value} {Q : Bool → Hp → Prop} (c : Cls X.K C) (hm : Meth X.K C "__contains__" f) (F : FnOk X.prog X.w X.K X.mg X.base CX k f fd ps sp) (hr : Room k X.A)
    (hb : Binds X.K fd ps []) (hx : Passes CX X E) (I : Inv X pins σ H s) (ea : H a = some (.ins C dx fs)) (ry : RelV y v) (h : sp [.ref a, y] H (fun z H' => ∃ b : Bool, z = .bl b ∧ Q b H') E) :
    wpAny (model X.prog X.w) X.A (contains (.ref a) v) (fun b s' => ∃ H', Inv X pins σ H' s' ∧ Q b H') X.xe s := by
  obtain ⟨mA, O, _⟩ := ins_get I.hok ea
  obtain ⟨od, J, _⟩ := O.look
  unfold contains
  refine wpAny_holding (wpAny_bind (wpAny_bind (J.type.here ((PySem.W.looks_findIn I.kIn hm.at_).here ?_))))
  rw [if_neg (by simp)]
  refine wpAny_bind (PySem.W.unlessNone_K I.kIn J hm.at_ hm.fn (wpAny_mono (run_fn (us := [.ref a, v]) (vs := [.ref a, y]) F hr hb .nil hx I (.cons rfl (.cons ry .nil)) h) (fun u s' hu => ?_) fun _ _ z => z))
  obtain ⟨z, H', I', rz, b, rfl, q⟩ := hu
  obtain rfl : u = Value.bool b := rz
  exact wpAny_truthy_bool ⟨H', I', q⟩
theorem op_inOwn {E : XK} (c : Cls X.K C) (hm : Meth X.K C "__contains__" f) (F : FnOk X.prog X.w X.K X.mg X.base CX k f fd ps sp) (hr : Room k X.A) (hb : Binds X.K fd ps []) (hx : Passes CX X E) : OpR X (compareOp .In) (rInOwn C sp E false) := by
  intro pins s σ H y x v u Q I ry rx h
  obtain ⟨a, dx, fs, rfl, ea, h⟩ := h
  obtain rfl : u = Value.ref a := rx
  refine wpAny_bind (wpAny_mono (has_own (Q := fun b H' => Q (.bl b) H') c hm F hr hb hx I ea ry (by simpa using h)) (fun b s' hz => ?_) fun _ _ z => z)
  obtain ⟨H', I', q⟩ := hz
  exact wpAny_pure ⟨.bl b, H', I', rfl, q⟩
theorem op_notInOwn {E : XK} (c : Cls X.K C) (hm : Meth X.K C "__contains__" f) (F : FnOk X.prog X.w X.K X.mg X.base CX k f fd ps sp) (hr : Room k X.A) (hb : Binds X.K fd ps []) (hx : Passes CX X E) : OpR X (compareOp .NotIn) (rInOwn C sp E true) := by
  intro pins s σ H y x v u Q I ry rx h
  obtain ⟨a, dx, fs, rfl, ea, h⟩ := h
  obtain rfl : u = Value.ref a := rx
  refine wpAny_bind (wpAny_mono (has_own (Q := fun b H' => Q (.bl (!b)) H') c hm F hr hb hx I ea ry (by simpa using h)) (fun b s' hz => ?_) fun _ _ z => z)
  obtain ⟨H', I', q⟩ := hz
  exact wpAny_pure ⟨.bl (!b), H', I', rfl, q⟩
end
/-! the same rules with K named (in comprehensions and trys the context is a bound one) -/
section
variable {X : Cx} {K : PySem.W.Frag}
theorem pe_fldK {e : Expr} {ta : TE} {f : Str} {pos : Pos} (h : X.K = K) (he : PE X e ta) (hb : attributeBase e f X.env (eval e X.env) = eval e X.env) : PE X (.Attribute e f pos) (tFld K ta f) := h ▸ pe_fld he hb
theorem ixK {r : PySem.W.Frag → V → V → Hp → VK → Prop} (h : X.K = K) (q : IxR X (r X.K)) : IxR X (r K) := h ▸ q
theorem slK {r : PySem.W.Frag → V → Option Int → Option Int → Hp → VK → Prop} (h : X.K = K) (q : SlR X (r X.K)) : SlR X (r K) := h ▸ q
theorem opK {f : Value → Value → Sem Value} {r : PySem.W.Frag → R2} (h : X.K = K) (q : OpR X f (r X.K)) : OpR X f (r K) := h ▸ q
theorem callK {v : Value} {r : PySem.W.Frag → List V → Hp → VK → Prop} (h : X.K = K) (q : CallR X v (r X.K)) : CallR X v (r K) := h ▸ q
def rLenK (K : PySem.W.Frag) : List V → Hp → VK → Prop := fun xs H Q => ∃ x n, xs = [x] ∧ LenV K x H n ∧ Q (.int n) H
def rListK (K : PySem.W.Frag) : List V → Hp → VK → Prop := fun xs H Q => ∃ p ys, xs = [.ref p] ∧ (SqL K H p ys ∨ SqT K H p ys) ∧ ∀ l, H l = none → Q (.ref l) (upd H l (.lst ys))
end
/-- what the top says of an own class without errors -/
structure ClsT (K : PySem.W.Frag) (mg : Str → Option Value) (nm : Str) (C : Addr) : Prop where
  cl : Cls K C
  mgC : mg nm = some (.ref C)
  ha : PySem.W.findIn K (.ref C) "__class__" = some (some (.builtin "object.__class__"))
  hn : PySem.W.specialIn K (.builtin "object.__class__") "__get__" = some (some (.builtin "getset_descriptor.__get__"))
  ht : PySem.W.takesIn K (.builtin "object.__class__") = some true
  hm : PySem.W.mroIn K C (.type "object") = some true
theorem kit_self {K : PySem.W.Frag} {t : Value} (h : (t == t) = true) : PySem.W.kitOne K t t = some true := by
  unfold PySem.W.kitOne
  rw [if_pos h]
theorem ClsT.ty {K : PySem.W.Frag} {mg : Str → Option Value} {nm : Str} {C : Addr} (c : ClsT K mg nm C) {H : Hp} {a dx : Addr} {fs : List (Str × V)} (e : H a = some (.ins C dx fs)) : TyX K H (.ref a) (.ref C) := .base (.ins e c.cl c.ha c.hn c.ht c.hm)
/-! one rule or another, by the proof's choice -/
theorem pe_either {X : Cx} {e : Expr} {t1 t2 : TE} (h1 : PE X e t1) (h2 : PE X e t2) : PE X e (fun σ H Q => t1 σ H Q ∨ t2 σ H Q) := ⟨fun pins s σ H Q I h => h.elim (h1.run pins s σ H Q I) (h2.run pins s σ H Q I)⟩
def iSeq (K : PySem.W.Frag) (tl : TE) : TI := fun σ H R => iList K tl σ H R ∨ iTup K tl σ H R
theorem pi_seq {X : Cx} {tg l : Expr} {tl : TE} (h : PE X l tl) : PI X tg l (iSeq X.K tl) := ⟨fun pins s σ H R I h' => h'.elim ((pi_list h).run pins s σ H R I) ((pi_tup h).run pins s σ H R I)⟩
theorem hu_of {A : Around} {k : Nat} (hr : Room k A) : A.units + 1 < cLine := by
  have := hr.un
  omega

section
open PyProof
/-! own rule: del xs[lo:] -/
theorem fm_take (g : Value × Nat → Option Value) (m : Nat) : ∀ (xs : List Value) (o : Nat), (∀ x ∈ xs.zipIdx o, g x = if x.2 < m then some x.1 else none) → (xs.zipIdx o).filterMap g = xs.take (m - o)
  | [], o, _ => by simp
  | x :: r, o, h => by
    rw [List.zipIdx_cons] at h ⊢
    have h1 := h (x, o) List.mem_cons_self
    have ih := fm_take g m r (o + 1) fun y hy => h y (List.mem_cons_of_mem _ hy)
    rw [List.filterMap_cons, h1]
    by_cases c : o < m
    · rw [if_pos c]
      show x :: _ = _
      rw [ih, show m - o = (m - (o + 1)) + 1 by omega, List.take_succ_cons]
    · rw [if_neg c]
      show List.filterMap g _ = _
      rw [ih, show m - o = 0 by omega, show m - (o + 1) = 0 by omega, List.take_zero, List.take_zero]
theorem sb_from {i : Int} (n : Nat) (h : 0 ≤ i) : sliceBounds (some i) none none n = (min i n, (n : Int), 1) := by
  show (max 0 (min (if i < 0 then i + (n : Int) else i) n), (n : Int), (1 : Int)) = _
  rw [if_neg (by omega)]
  congr 1
  omega
/-- the places from i on, below n -/
def fromOn (i n : Int) (k : Nat) : Bool := decide (i ≤ k) && decide ((k : Int) < n) && ((k : Int) - i) % 1 == 0
theorem fm_sel (items : Array Value) {i : Int} (h0 : 0 ≤ i) : items.toList.zipIdx.filterMap (fun x => if fromOn (min i items.size) items.size x.2 = true then none else some x.1) = items.toList.take i.toNat := by
  refine (fm_take _ i.toNat items.toList 0 fun x hx => ?_)
  have hx2 : x.2 < items.size := by
    have := List.snd_lt_of_mem_zipIdx hx
    simpa using this
  unfold fromOn
  by_cases c : x.2 < i.toNat
  · rw [if_pos c, if_neg (by simp; omega)]
  · rw [if_neg c, if_pos (by simp; omega)]
theorem del_slice {prog : Program} {w : World} {A : Around} {E : Value → Shared → Prop} {s : Shared} {l sl : Addr} {items : Array Value} {n : Nat} {od : Option Addr} {osl : Array (Option Value)} {vl : Value} {i : Int} {Q : Unit → Shared → Prop}
    (hl : s.heap.get? l = some ⟨.type "list", od, .seq items n, osl⟩) (hs : s.heap.IsSliceOf sl vl .none .none) (pl : IsPart vl (some i)) (h0 : 0 ≤ i) (hsz : items.size ≤ sizeLine)
    (h : ∀ f : Array Value → Array Value, f items = (items.toList.take i.toNat).toArray → Q () { s with heap := s.heap.update l (Obj.mapSeq f) }) : wpAny (model prog w) A (delItem (.ref l) (.ref sl)) Q E s := by
  obtain ⟨os, hos, hcs, hds⟩ := id hs
  have hTs : s.TypeIs (.ref sl) "slice" := ⟨os, hos, hcs⟩
  have hTl : s.TypeIs (.ref l) "list" := ⟨_, hl, rfl⟩
  refine wpAny_delItem_slot hTl (by decide) PySem.F.slot_list_delitem (wpAny_call_entry PySem.F.slot_list_delitem hTl PySem.F.entry_list_delitem ?_ (PySem.F.args_list_delitem_2 _ _))
  unfold Builtin.«list.__delitem__»
  refine wpAny_bind ?_
  show wpAny _ _ (slotArgs "__delitem__" 1 _) _ _ _
  unfold slotArgs
  refine wpAny_ite_false (show decide _ = false from rfl) (wpAny_ite_false (show decide _ = false from rfl) (wpAny_pure ?_))
  refine wpAny_bind ?_
  unfold Builtin.List.listSubscript?
  refine wpAny_bind (wpAny_specialOf hTs slice_no_index ?_)
  refine wpAny_ite_true (show decide _ = true from rfl) (wpAny_pure ?_)
  dsimp only
  refine wpAny_bind (wpAny_typeOf hTs ?_)
  refine wpAny_ite_false (by decide) ?_
  rw [listSliceParts_eq]
  refine wpAny_bind (wpAny_bind (wpAny_field hos hds rfl (wpAny_bind (wpAny_listPart .none ?_))))
  dsimp only
  refine wpAny_ite_false (by decide) ?_
  refine wpAny_bind (wpAny_field hos hds rfl (wpAny_bind (wpAny_listPart pl ?_)))
  refine wpAny_bind (wpAny_field hos hds rfl (wpAny_bind (wpAny_listPart .none (wpAny_pure ?_))))
  dsimp only
  refine wpAny_bind (listItems_at hl rfl ?_)
  rw [sliceIndices_raw _ _ _ _ (by simp)]
  refine wpAny_bind (wpAny_pure ?_)
  refine wpAny_bind (wpAny_rule ?_)
  refine wpAny_bind (listUpdate_at hl rfl ?_ hsz ?_)
  all_goals rw [sb_from _ h0]
  all_goals have key := fm_sel items h0
  · refine wpAny_bind (wpAny_letGo ?_)
    refine wpAny_pure ⟨_, rfl, h _ ?_⟩
    exact congrArg List.toArray key
  · show (List.toArray (items.toList.zipIdx.filterMap (fun x => if fromOn (min i items.size) items.size x.2 = true then none else some x.1))).size ≤ _
    rw [key]
    simp
    have : items.size ≤ sizeLine := hsz
    omega

/-- del xs[lo:] -/
def tDelF (to : TE) (tl : TO) : TS := fun D σ H => to σ H fun x H1 => tl σ H1 fun lo H2 => ∃ (l : Addr) (xs : List V) (i : Int), x = .ref l ∧ lo = some i ∧ 0 ≤ i ∧ H2 l = some (.lst xs) ∧ D.nx σ (upd H2 l (.lst (xs.take i.toNat)))
theorem ps_delF {X : Cx} {pos tpos p2 : Pos} {o e : Expr} {to : TE} {tl : TO} (ho : PE X o to) (hl : PO X (some e) tl) : PS X (.Delete [.Subscript o (.Slice (some e) none none p2) tpos] pos) (tDelF to tl) := by
  refine ⟨fun pins s σ H D I h => wpAny_Delete (wpAny_deleteEach_cons (wpAny_delete_Subscript (thn (ho.run pins s σ H _ I h) fun u s1 ⟨x, H1, I1, rx, q1⟩ => ?_)))⟩
  refine wpAny_Slice (thn (hl.run pins s1 σ H1 _ I1 q1) fun vl s2 ⟨lo, H2, I2, pl, q2⟩ => ?_)
  rw [evalPart_none]
  refine wpAny_pure (wpAny_pure ?_)
  obtain ⟨l, xs, i, rfl, rfl, h0, hH, q⟩ := q2
  obtain rfl : u = Value.ref l := rx
  have I3 := Inv.kept (t' := s2.toks) I2 fun b ob q => Heap.get?_push_of_some (⟨.type "slice", none, .fields #[vl, .none, .none], #[]⟩) q
  obtain ⟨z, its, n, r, hn, e⟩ := I3.lstM hH
  refine del_slice e (Heap.IsSliceOf.new s2.1 vl .none .none) pl h0 (by simp; omega) fun f hf => wpAny_deleteEach_nil ⟨σ, _, I3.lset hH e hf (r.take _) ?_, q⟩
  rw [List.length_take]
  omega
end

structure ExcT (K : PySem.W.Frag) (mg : Str → Option Value) (nm : Str) (C : Addr) : Prop where
  gC : mg nm = some (.ref C)
  xP : PySem.W.excIn K C [.type "ValueError", .type "Exception", .type "BaseException", .type "object"] "ValueError.__new__" = true
  kC : PySem.W.keepIn K (.ref C) = true
  bP : PySem.W.subIn K (.ref C) (.type "BaseException") = some true
  tP : PySem.W.typeIn K (.ref C) = some (.type "type")
  iP : PySem.W.isClsIn K C = true
  cP : ExcC K C
  vP : PySem.W.kitOne K (.ref C) (.type "ValueError") = some true
structure Env (K : PySem.W.Frag) (mg : Str → Option Value) where
  c_MeridianError : Addr
  c_Refused : Addr
  a_DurableState : Addr
  a_replay : Addr
  d_replay : FuncData
  a_state_after : Addr
  d_state_after : FuncData
  a_DurableState_init : Addr
  d_DurableState_init : FuncData
  a_DurableState_take : Addr
  d_DurableState_take : FuncData
  a_DurableState_take_ballot : Addr
  d_DurableState_take_ballot : FuncData
  a_DurableState_take_promise : Addr
  d_DurableState_take_promise : FuncData
  a_DurableState_take_entry : Addr
  d_DurableState_take_entry : FuncData
  a__law_cell : Addr
  d__law_cell : FuncData
  a__law_is_int : Addr
  d__law_is_int : FuncData
  a__law_apply : Addr
  d__law_apply : FuncData
  a__law_change : Addr
  d__law_change : FuncData
  a__law_refused : Addr
  d__law_refused : FuncData
  a_law : Addr
  d_law : FuncData
  F_replay : Fun K "replay" "replay" s_replay a_replay d_replay
  b_replay : Binds K d_replay ["notes"] []
  g_replay : mg "replay" = some (.ref a_replay)
  F_state_after : Fun K "state_after" "state_after" s_state_after a_state_after d_state_after
  b_state_after : Binds K d_state_after ["notes"] []
  g_state_after : mg "state_after" = some (.ref a_state_after)
  F_DurableState_init : Fun K "__init__" "DurableState.__init__" s_DurableState_init a_DurableState_init d_DurableState_init
  b_DurableState_init : Binds K d_DurableState_init ["self"] []
  F_DurableState_take : Fun K "take" "DurableState.take" s_DurableState_take a_DurableState_take d_DurableState_take
  b_DurableState_take : Binds K d_DurableState_take ["self", "note"] []
  F_DurableState_take_ballot : Fun K "take_ballot" "DurableState.take_ballot" s_DurableState_take_ballot a_DurableState_take_ballot d_DurableState_take_ballot
  b_DurableState_take_ballot : Binds K d_DurableState_take_ballot ["self", "term", "vote"] []
  F_DurableState_take_promise : Fun K "take_promise" "DurableState.take_promise" s_DurableState_take_promise a_DurableState_take_promise d_DurableState_take_promise
  b_DurableState_take_promise : Binds K d_DurableState_take_promise ["self", "until"] []
  F_DurableState_take_entry : Fun K "take_entry" "DurableState.take_entry" s_DurableState_take_entry a_DurableState_take_entry d_DurableState_take_entry
  b_DurableState_take_entry : Binds K d_DurableState_take_entry ["self", "index", "term", "record"] []
  F__law_cell : Fun K "_law_cell" "_law_cell" s__law_cell a__law_cell d__law_cell
  b__law_cell : Binds K d__law_cell ["script", "k"] []
  g__law_cell : mg "_law_cell" = some (.ref a__law_cell)
  F__law_is_int : Fun K "_law_is_int" "_law_is_int" s__law_is_int a__law_is_int d__law_is_int
  b__law_is_int : Binds K d__law_is_int ["thing"] []
  g__law_is_int : mg "_law_is_int" = some (.ref a__law_is_int)
  F__law_apply : Fun K "_law_apply" "_law_apply" s__law_apply a__law_apply d__law_apply
  b__law_apply : Binds K d__law_apply ["state", "note"] []
  g__law_apply : mg "_law_apply" = some (.ref a__law_apply)
  F__law_change : Fun K "_law_change" "_law_change" s__law_change a__law_change d__law_change
  b__law_change : Binds K d__law_change ["cell", "state"] []
  g__law_change : mg "_law_change" = some (.ref a__law_change)
  F__law_refused : Fun K "_law_refused" "_law_refused" s__law_refused a__law_refused d__law_refused
  b__law_refused : Binds K d__law_refused ["notes"] []
  g__law_refused : mg "_law_refused" = some (.ref a__law_refused)
  F_law : Fun K "law" "law" s_law a_law d_law
  b_law : Binds K d_law ["script"] []
  e_MeridianError : ExcT K mg "MeridianError" c_MeridianError
  u_MeridianError_MeridianError : PySem.W.exmOne K (.ref c_MeridianError) (.ref c_MeridianError) = some true
  q_MeridianError_MeridianError : PySem.W.kitOne K (.ref c_MeridianError) (.ref c_MeridianError) = some true
  u_MeridianError_Refused : PySem.W.exmOne K (.ref c_MeridianError) (.ref c_Refused) = some false
  q_MeridianError_Refused : PySem.W.kitOne K (.ref c_MeridianError) (.ref c_Refused) = some false
  e_Refused : ExcT K mg "Refused" c_Refused
  u_Refused_MeridianError : PySem.W.exmOne K (.ref c_Refused) (.ref c_MeridianError) = some true
  q_Refused_MeridianError : PySem.W.kitOne K (.ref c_Refused) (.ref c_MeridianError) = some true
  u_Refused_Refused : PySem.W.exmOne K (.ref c_Refused) (.ref c_Refused) = some true
  q_Refused_Refused : PySem.W.kitOne K (.ref c_Refused) (.ref c_Refused) = some true
  k_DurableState : ClsT K mg "DurableState" a_DurableState
  n_DurableState_ballot : NoAttr K a_DurableState "ballot"
  n_DurableState_until : NoAttr K a_DurableState "until"
  n_DurableState_log : NoAttr K a_DurableState "log"
  M_DurableState : Mk K a_DurableState a_DurableState_init
  m_DurableState_take : Meth K a_DurableState "take" a_DurableState_take
  m_DurableState_take_ballot : Meth K a_DurableState "take_ballot" a_DurableState_take_ballot
  m_DurableState_take_promise : Meth K a_DurableState "take_promise" a_DurableState_take_promise
  m_DurableState_take_entry : Meth K a_DurableState "take_entry" a_DurableState_take_entry
  o_NO_VOTE : Value
  k_NO_VOTE : mg "NO_VOTE" = some o_NO_VOTE
  r_NO_VOTE : RelV (.int (-1)) o_NO_VOTE
  z_len : mg "len" = none
  z_abs : mg "abs" = none
  z_int : mg "int" = none
  z_isinstance : mg "isinstance" = none
  z_bool : mg "bool" = none
  z_max : mg "max" = none
  z_range : mg "range" = none
  z_list : mg "list" = none
  z_min : mg "min" = none
  z_tuple : mg "tuple" = none
section
variable {P : Program} {w : World} {K : PySem.W.Frag} {mg : Str → Option Value} {base : Heap}
--PART /work/steering/wip/tools/pre.lean


--PART /work/steering/wip/tools/own.lean


--PART /work/steering/wip/tools/delf.lean


--PART /work/steering/wip/parts/rets.lean

--PART /work/steering/wip/parts/num.lean
/-! ### base 128 -/
def vint (n : Int) : List Int := if n < 128 then [n] else (n % 128 + 128) :: vint (n / 128)
termination_by n.toNat
decreasing_by omega
theorem vint_lt {n : Int} (h : n < 128) : vint n = [n] := by rw [vint, if_pos h]
theorem vint_ge {n : Int} (h : ¬ n < 128) : vint n = (n % 128 + 128) :: vint (n / 128) := by rw [vint, if_neg h]
def NB : Int := 128 ^ 100
theorem vint_len : ∀ (k : Nat) (n : Int), n < 128 ^ (k + 1) → (vint n).length ≤ k + 1
  | 0, n, h => by
    have h' : n < 128 := by simpa using h
    rw [vint_lt h']
    exact Nat.le_refl _
  | k + 1, n, h => by
    by_cases c : n < 128
    · rw [vint_lt c]
      show 1 ≤ _
      omega
    · rw [vint_ge c, List.length_cons]
      have := vint_len k (n / 128) (by
        have e : (128 : Int) ^ (k + 1 + 1) = 128 ^ (k + 1) * 128 := Int.pow_succ ..
        rw [e] at h
        exact Int.ediv_lt_of_lt_mul (by decide) h)
      omega
theorem vint_len100 {n : Int} (h : n < NB) : (vint n).length ≤ 100 := vint_len 99 n h
theorem vint_ne (n : Int) : vint n ≠ [] := by
  by_cases c : n < 128
  · rw [vint_lt c]; simp
  · rw [vint_ge c]; simp
theorem vint_pos (n : Int) : 1 ≤ (vint n).length := by
  have := vint_ne n
  cases e : vint n with
  | nil => exact absurd e this
  | cons a r => simp
theorem vint_byte : ∀ (k : Nat) (n : Int), n < 128 ^ (k + 1) → 0 ≤ n → ∀ b ∈ vint n, 0 ≤ b ∧ b < 256
  | 0, n, h, h0, b, hb => by
    have h' : n < 128 := by simpa using h
    rw [vint_lt h'] at hb
    have : b = n := by simpa using hb
    omega
  | k + 1, n, h, h0, b, hb => by
    by_cases c : n < 128
    · rw [vint_lt c] at hb
      have : b = n := by simpa using hb
      omega
    · rw [vint_ge c] at hb
      rcases List.mem_cons.mp hb with e | e
      · omega
      · exact vint_byte k (n / 128) (by
          have e : (128 : Int) ^ (k + 1 + 1) = 128 ^ (k + 1) * 128 := Int.pow_succ ..
          rw [e] at h
          exact Int.ediv_lt_of_lt_mul (by decide) h) (by omega) b e
theorem vint_byte_NB {n : Int} (h : n < NB) (h0 : 0 ≤ n) : ∀ b ∈ vint n, 0 ≤ b ∧ b < 256 := vint_byte 99 n h h0
/-! ### numbers of the law -/
def lawNum (c : Int) : Int := if c < 10 ^ 18 then ([0, 1, 127, 128, 129, 16383, 16384, 16385, c] : List Int).getD (c % 9).toNat 0 else c % 10 ^ 60
theorem lawNum_lt {c : Int} (h : 0 ≤ c) : 0 ≤ lawNum c ∧ lawNum c < 10 ^ 60 := by
  unfold lawNum
  by_cases k : c < 10 ^ 18
  · rw [if_pos k]
    obtain ⟨j, hj, e⟩ : ∃ j : Nat, j < 9 ∧ (c % 9).toNat = j := ⟨_, by omega, rfl⟩
    rw [e]
    match j, hj with
    | 0, _ | 1, _ | 2, _ | 3, _ | 4, _ | 5, _ | 6, _ | 7, _ => exact ⟨by simp, by simp⟩
    | 8, _ => exact ⟨h, by show c < _; omega⟩
  · rw [if_neg k]
    exact ⟨Int.emod_nonneg _ (by decide), Int.emod_lt_of_pos _ (by decide)⟩
theorem num_NB {n : Int} (h : n < 10 ^ 60) : n < NB := Int.lt_of_lt_of_le h (by decide +kernel)
theorem canLay_dints : ∀ ns : List Int, PyData.canLayAll0 (ns.map PyData.int) = true
  | [] => rfl
  | n :: r => by
    show (PyData.canLay0 (.int n) && PyData.canLayAll0 (r.map PyData.int)) = true
    rw [canLay_dints r]
    rfl
theorem depth_dints : ∀ ns : List Int, PyData.depthAll (ns.map PyData.int) = 0
  | [] => by unfold PyData.depthAll; rfl
  | n :: r => by
    show PyData.depthAll (.int n :: r.map PyData.int) = 0
    unfold PyData.depthAll
    rw [depth_dints r]
    unfold PyData.depth
    rfl
theorem shaped_dInts (ns : List Int) : SeqAt.shaped (dInts ns) = true := by
  unfold SeqAt.shaped dInts
  rw [show PyData.canLay0 (.list (ns.map PyData.int)) = true from by unfold PyData.canLay0; exact canLay_dints ns]
  have : PyData.depth (.list (ns.map PyData.int)) = 1 := by
    unfold PyData.depth
    rw [depth_dints]
  rw [this]
  decide

--PART /work/steering/wip/parts/lawnum.lean
/-! ### the law's own helpers -/
def cell (ns : List Int) (k : Int) : Int := ((ns.getD k.toNat 0).natAbs : Int)
theorem cell_nn (ns : List Int) (k : Int) : 0 ≤ cell ns k := Int.natCast_nonneg _
def sp__law_cell (T : Env K mg) : Sp := fun vs H Q E => ∃ (a : Addr) (ns : List Int) (k : Int), vs = [.ref a, .int k] ∧ SqL K H a (ns.map V.int) ∧ 0 ≤ k ∧ Q (.int (cell ns k)) H
theorem ok__law_cell (T : Env K mg) : FnOk P w K mg base (L2.CX P w) 1 T.a__law_cell T.d__law_cell ["script", "k"] (sp__law_cell T) := by
  refine T.F__law_cell.okX sc__law_cell (fun vs H Q E h => by obtain ⟨_, _, _, rfl, _⟩ := h; rfl) (fun cdv A outer s H vs Q E hr h => ?_)
  obtain ⟨a, ns, k, rfl, hS, hk, h1⟩ := h
  refine ⟨_, (pss_cons (ps_if (pt_cmpR op_lt (pv 1) (pe_callB call_len (by rfl) T.z_len (by decide +kernel) (pa_cons (pv 0) pa_nil)) (nomark _)) (pss_one (ps_ret (pe_callB call_abs (by rfl) T.z_abs (by decide +kernel) (pa_cons (pe_callTy call_int1 (by rfl) T.z_int (by decide +kernel) (pa_cons (pe_ix ix_list (pv 0) (pv 1) (fun _ _ => rfl)) pa_nil)) pa_nil)))) pss_nil)
      (pss_one (ps_ret pe_int))), ?_⟩
  obtain ⟨j, rfl⟩ : ∃ j : Nat, k = (j : Int) := ⟨k.toNat, by omega⟩
  have hc : cell ns (j : Int) = ((ns.getD j 0).natAbs : Int) := rfl
  refine ⟨_, rfl, _, rfl, _, _, rfl, .inl ⟨_, hS, rfl⟩, _, _, rfl, rfl, _, rfl, iteD (fun c => ?_) (fun c => ?_)⟩
  · rw [List.length_map] at c
    have hj : j < ns.length := by omega
    refine ⟨_, rfl, _, rfl, a, _, _, _, rfl, rfl, hS, at_of (j := j) (v := V.int (ns.getD j 0)) rfl (by rw [List.getElem?_map, List.getD_eq_getElem?_getD, List.getElem?_eq_getElem hj]; rfl), .inl ⟨_, rfl, _, rfl, ?_⟩⟩
    have e : (if ns.getD j 0 < 0 then -ns.getD j 0 else ns.getD j 0) = cell ns (j : Int) := by
      rw [hc]
      split <;> omega
    show Q (V.int (if ns.getD j 0 < 0 then -ns.getD j 0 else ns.getD j 0)) H
    rw [e]
    exact h1
  · rw [List.length_map] at c
    show Q (.int 0) H
    have e : cell ns (j : Int) = 0 := by
      rw [hc, List.getD_eq_getElem?_getD, List.getElem?_eq_none (by omega)]
      rfl
    rw [e] at h1
    exact h1
def sp__law_is_int (T : Env K mg) : Sp := fun vs H Q E => ∃ (i : Int), vs = [.int i] ∧ Q (.bl true) H
theorem ok__law_is_int (T : Env K mg) : FnOk P w K mg base (L2.CX P w) 1 T.a__law_is_int T.d__law_is_int ["thing"] (sp__law_is_int T) := by
  refine T.F__law_is_int.okX sc__law_is_int (fun vs H Q E h => by obtain ⟨_, rfl, _⟩ := h; rfl) (fun cdv A outer s H vs Q E hr h => ?_)
  obtain ⟨i, rfl, h1⟩ := h
  refine ⟨_, (pss_one (ps_ret (pe_and (pe_callB call_isi (by rfl) T.z_isinstance (by decide +kernel) (pa_cons (pv 0) (pa_cons (pe_bltn (v := .ty "int") (by rfl) T.z_int (by decide +kernel) rfl) pa_nil))) (pe_one (pe_not (pe_callB call_isi (by rfl) T.z_isinstance (by decide +kernel) (pa_cons (pv 0) (pa_cons (pe_bltn (v := .ty "bool") (by rfl) T.z_bool (by decide +kernel) rfl) pa_nil)))))))), ?_⟩
  refine ⟨_, rfl, _, _, _, _, _, rfl, .ty _, .base (.int _), kit_ty (b := "int") (r := true) (by decide +kernel), _, rfl, iteT ?_⟩
  exact ⟨_, rfl, _, _, _, _, _, rfl, .ty _, .base (.int _), kit_ty (b := "bool") (r := false) (by decide +kernel), _, rfl, h1⟩

--PART /work/steering/wip/parts/durable.lean
/-! ### what notes say in order -/
theorem via0 {G R : Prop} (A : Prop) (k : (A → R) → G) (fin : A → R) : G := k fin
inductive Nt where
  | bal (t v : Int) | pro (p : Int) | ent (i t n : Int)
structure S where
  t : Int
  v : Int
  u : Int
  log : List (Int × Int)
def last1 (log : List (Int × Int)) (i : Int) : Int := (log.getD (i.toNat - 1) (0, 0)).1
def app (s : S) : Nt → Option S
  | .pro p => some ⟨s.t, s.v, if p > s.u then p else s.u, s.log⟩
  | .bal t v => if t < s.t ∨ (t = s.t ∧ s.v ≠ -1 ∧ v ≠ s.v) then none else some ⟨t, v, s.u, s.log⟩
  | .ent i t n => if i > (s.log.length : Nat) ∨ t > s.t ∨ (i > 0 ∧ t < last1 s.log i) then none else some ⟨s.t, s.v, s.u, s.log.take i.toNat ++ [(t, n)]⟩
def NoteAt (H : Hp) (a : Addr) : Nt → Prop
  | .bal t v => H a = some (.tup [.str "ballot", .int t, .int v])
  | .pro p => H a = some (.tup [.str "promise", .int p])
  | .ent i t n => 0 ≤ i ∧ ∃ r, H a = some (.tup [.str "entry", .int i, .int t, .ref r]) ∧ H r = some (.tup [.str "floor", .int n])
def EntAt (H : Hp) (x : Addr) (e : Int × Int) : Prop := ∃ r, H x = some (.tup [.int e.1, .ref r]) ∧ H r = some (.tup [.str "floor", .int e.2])
/-- tuples stay -/
def Tp (H H' : Hp) : Prop := ∀ x xs, H x = some (.tup xs) → H' x = some (.tup xs)
theorem Same.tp {H H' : Hp} (s : Same H H') : Tp H H' := fun x _ h => s x _ h
theorem EntAt.tp {H H' : Hp} {x : Addr} {e : Int × Int} (h : EntAt H x e) (s : Tp H H') : EntAt H' x e := by
  obtain ⟨r, h1, h2⟩ := h
  exact ⟨r, s _ _ h1, s _ _ h2⟩
theorem NoteAt.tp {H H' : Hp} {a : Addr} {n : Nt} (h : NoteAt H a n) (s : Tp H H') : NoteAt H' a n := by
  cases n with
  | bal t v => exact s _ _ h
  | pro p => exact s _ _ h
  | ent i t n =>
    obtain ⟨h0, r, h1, h2⟩ := h
    exact ⟨h0, r, s _ _ h1, s _ _ h2⟩
/-- a list of entries at g -/
structure Lg (H : Hp) (g : Addr) (as : List Addr) (log : List (Int × Int)) : Prop where
  at_ : H g = some (.lst (as.map V.ref))
  len : as.length = log.length
  each : ∀ (j : Nat) (x : Addr), as[j]? = some x → ∃ e, log[j]? = some e ∧ EntAt H x e
/-- a change of an instance does not reach a list of entries -/
theorem Lg.tp {H H' : Hp} {g : Addr} {as : List Addr} {log : List (Int × Int)} (h : Lg H g as log) (f : ∀ x o, H x = some o → (∀ C d fs, o ≠ .ins C d fs) → H' x = some o) : Lg H' g as log :=
  ⟨f _ _ h.at_ (fun _ _ _ q => by cases q), h.len, fun j x hj => by
    obtain ⟨e, h1, h2⟩ := h.each j x hj
    exact ⟨e, h1, h2.tp fun y ys hy => f _ _ hy fun _ _ _ q => by cases q⟩⟩
theorem Lg.same {H H' : Hp} {g : Addr} {as : List Addr} {log : List (Int × Int)} (h : Lg H g as log) (s : Same H H') : Lg H' g as log := h.tp fun x o e _ => s x o e
theorem dn1 : ¬ (("ballot" : Str) = "until") := by decide +kernel
theorem dn2 : ¬ (("ballot" : Str) = "log") := by decide +kernel
theorem dn3 : ¬ (("until" : Str) = "log") := by decide +kernel
def dsf (b g : Addr) (u : Int) : List (Str × V) := putF "log" (.ref g) (putF "until" (.int u) (putF "ballot" (.ref b) []))
theorem dsf_eq (b g : Addr) (u : Int) : dsf b g u = ([("ballot", V.ref b), ("until", V.int u), ("log", V.ref g)] : List (Str × V)) := by
  unfold dsf
  have e1 : putF "until" (V.int u) (putF "ballot" (V.ref b) []) = ([("ballot", V.ref b), ("until", V.int u)] : List (Str × V)) := by
    show (if ("ballot" : Str) = "until" then _ else (("ballot" : Str), V.ref b) :: putF "until" (V.int u) []) = _
    rw [if_neg dn1]
    rfl
  rw [e1]
  show (if ("ballot" : Str) = "log" then _ else (("ballot" : Str), V.ref b) :: (if ("until" : Str) = "log" then _ else (("until" : Str), V.int u) :: putF "log" (V.ref g) [])) = _
  rw [if_neg dn2, if_neg dn3]
  rfl
theorem dsf_ballot (b g : Addr) (u : Int) : (dsf b g u).lookup ("ballot" : Str) = some (.ref b) := by
  unfold dsf
  rw [lookup_putF, if_neg dn2, lookup_putF, if_neg dn1, lookup_putF, if_pos rfl]
theorem dsf_until (b g : Addr) (u : Int) : (dsf b g u).lookup ("until" : Str) = some (.int u) := by
  unfold dsf
  rw [lookup_putF, if_neg dn3, lookup_putF, if_pos rfl]
theorem dsf_log (b g : Addr) (u : Int) : (dsf b g u).lookup ("log" : Str) = some (.ref g) := by
  unfold dsf
  rw [lookup_putF, if_pos rfl]
theorem dsf_no (b g : Addr) (u : Int) {m : Str} (h1 : ¬ m = "log") (h2 : ¬ m = "until") (h3 : ¬ m = "ballot") : (dsf b g u).lookup m = none := by
  unfold dsf
  rw [lookup_putF, if_neg h1, lookup_putF, if_neg h2, lookup_putF, if_neg h3]
  rfl
theorem dsf_putB (b g c : Addr) (u : Int) : putF "ballot" (.ref c) (dsf b g u) = dsf c g u := by
  rw [dsf_eq, dsf_eq]
  show (if ("ballot" : Str) = "ballot" then _ else _) = _
  rw [if_pos rfl]
theorem dsf_putU (b g : Addr) (u w : Int) : putF "until" (.int w) (dsf b g u) = dsf b g w := by
  rw [dsf_eq, dsf_eq]
  show (if ("ballot" : Str) = "until" then _ else (("ballot" : Str), V.ref b) :: (if ("until" : Str) = "until" then _ else _)) = _
  rw [if_neg dn1, if_pos rfl]
/-- a durable state at a, its log at g -/
structure Ds (T : Env K mg) (H : Hp) (a g : Addr) (s : S) : Prop where
  at_ : ∃ dx b, H a = some (.ins T.a_DurableState dx (dsf b g s.u)) ∧ H b = some (.tup [.int s.t, .int s.v])
  lg : ∃ as, Lg H g as s.log
theorem Ds.same {T : Env K mg} {H H' : Hp} {a g : Addr} {s : S} (h : Ds T H a g s) (k : Same H H') : Ds T H' a g s := by
  obtain ⟨⟨dx, b, h1, h2⟩, as, h3⟩ := h
  exact ⟨⟨dx, b, k _ _ h1, k _ _ h2⟩, as, h3.same k⟩
/-- all but the state and its log stays -/
def Kd (H H' : Hp) (a g : Addr) : Prop := ∀ x o, H x = some o → x ≠ a → x ≠ g → H' x = some o
def sp_DurableState_init (T : Env K mg) : Sp := fun vs H Q E => ∃ (p dx : Addr), vs = [.ref p] ∧ H p = some (.ins T.a_DurableState dx []) ∧
  ∀ g H', H g = none → Ds T H' p g ⟨0, -1, 0, []⟩ → (∀ c u, H c = some u → c ≠ p → H' c = some u) → Q .non H'
theorem ok_DurableState_init (T : Env K mg) : FnOk P w K mg base (L2.CX P w) 1 T.a_DurableState_init T.d_DurableState_init ["self"] (sp_DurableState_init T) := by
  refine T.F_DurableState_init.okX sc_DurableState_init (fun vs H Q E h => by obtain ⟨_, _, rfl, _⟩ := h; rfl) (fun cdv A outer s H vs Q E hr h => ?_)
  obtain ⟨p, dx, rfl, hp, h1⟩ := h
  refine ⟨_, (pss_cons (ps_fld (pv 0) (pe_tup (pa_cons pe_int (pa_cons (pe_glob rfl T.k_NO_VOTE T.r_NO_VOTE) pa_nil))) rfl)
      (pss_cons (ps_fld (pv 0) pe_int rfl)
      (pss_one (ps_fld (pv 0) (pe_lst pa_nil) rfl)))), ?_⟩
  refine ⟨(by show 2 ≤ sizeLine; decide), fun b nb => ⟨_, rfl, p, T.a_DurableState, dx, [], rfl, same_new nb _ _ hp, T.k_DurableState.cl, T.n_DurableState_ballot, (by show 0 < 1000; decide), ?_⟩⟩
  refine ⟨_, rfl, p, T.a_DurableState, dx, _, rfl, upd_same, T.k_DurableState.cl, T.n_DurableState_until, (by show 1 < 1000; decide), ?_⟩
  refine ⟨Nat.zero_le _, fun g ng => ?_⟩
  have nbp : b ≠ p := fun e => by
    rw [e, hp] at nb
    cases nb
  have ngp : g ≠ p := fun e => by
    rw [e, upd_same] at ng
    cases ng
  rw [upd_ne ngp, upd_ne ngp] at ng
  have ngb : g ≠ b := fun e => by
    rw [e, upd_same] at ng
    cases ng
  have ng0 : H g = none := by
    rw [upd_ne ngb] at ng
    exact ng
  refine ⟨_, rfl, p, T.a_DurableState, dx, putF "until" (.int 0) (putF "ballot" (.ref b) []), rfl, by rw [upd_ne ngp.symm, upd_same], T.k_DurableState.cl, T.n_DurableState_log, (by show 2 < 1000; decide), ?_⟩
  refine h1 g _ ng0 ⟨⟨dx, b, upd_same, ?_⟩, [], ?_, rfl, fun j x hj => by simp at hj⟩ fun c u e hc => ?_
  · rw [upd_ne nbp, upd_ne ngb.symm, upd_ne nbp, upd_ne nbp, upd_same]
  · rw [upd_ne ngp, upd_same]
    rfl
  · rw [upd_ne hc, upd_ne (ne_of_none e ng0), upd_ne hc, upd_ne hc]
    exact same_new nb _ _ e
def sp_DurableState_take_promise (T : Env K mg) : Sp := fun vs H Q E => ∃ (a g : Addr) (s : S) (p : Int), vs = [.ref a, .int p] ∧ Ds T H a g s ∧ ∀ b H', Ds T H' a g ⟨s.t, s.v, if p > s.u then p else s.u, s.log⟩ → Kd H H' a g → Q (.bl b) H'
theorem ok_DurableState_take_promise (T : Env K mg) : FnOk P w K mg base (L2.CX P w) 1 T.a_DurableState_take_promise T.d_DurableState_take_promise ["self", "until"] (sp_DurableState_take_promise T) := by
  refine T.F_DurableState_take_promise.okX sc_DurableState_take_promise (fun vs H Q E h => by obtain ⟨_, _, _, _, rfl, _⟩ := h; rfl) (fun cdv A outer s H vs Q E hr h => ?_)
  obtain ⟨a, g, st, p, rfl, hD, h1⟩ := h
  obtain ⟨dx, b, ha, hb⟩ := hD.at_
  obtain ⟨as, hL⟩ := hD.lg
  refine ⟨_, (pss_cons (ps_if (pt_cmpR op_le (pv 1) (pe_fld (pv 0) rfl) (nomark _)) (pss_one (ps_ret pe_bl)) pss_nil)
      (pss_cons (ps_fld (pv 0) (pv 1) rfl)
      (pss_one (ps_ret pe_bl)))), ?_⟩
  refine ⟨_, rfl, _, rfl, a, _, _, _, _, rfl, ha, T.k_DurableState.cl, T.n_DurableState_until, dsf_until _ _ _, _, _, rfl, rfl, _, rfl, iteD (fun c => ?_) (fun c => ?_)⟩
  · have c : p ≤ st.u := c
    exact h1 _ _ (by rw [if_neg (by omega)]; exact hD) fun x o e _ _ => e
  · have c : ¬ p ≤ st.u := c
    refine ⟨_, rfl, _, rfl, a, T.a_DurableState, dx, dsf b g st.u, rfl, ha, T.k_DurableState.cl, T.n_DurableState_until, (by rw [dsf_eq]; show 3 < 1000; decide), ?_⟩
    rw [dsf_putU]
    have nba : b ≠ a := fun e => by
      rw [e, ha] at hb
      cases hb
    refine h1 _ _ ?_ fun x o e hx _ => by rw [upd_ne hx]; exact e
    rw [if_pos (by omega)]
    refine ⟨⟨dx, b, upd_same, by rw [upd_ne nba]; exact hb⟩, as, hL.tp fun x o e hx => ?_⟩
    rw [upd_ne]
    · exact e
    · rintro rfl
      exact hx _ _ _ (Option.some.inj (e.symm.trans ha))
def dPair (t v : Int) : PyData := .tuple [.int t, .int v]
theorem dp_pair {H : Hp} {p : Addr} {t v : Int} (h : H p = some (.tup [.int t, .int v])) : Dp K H (.ref p) (dPair t v) := .tup (SqT.of h) (.cons (.int _) (.cons (.int _) .nil))
theorem shaped_pair (t v : Int) : SeqAt.shaped (dPair t v) = true := by
  unfold SeqAt.shaped dPair
  simp [PyData.canLay0, PyData.canLayAll0, PyData.depth, PyData.depthAll]
theorem eqv_pair (t v i j : Int) : PyData.eqv (dPair t v) (dPair i j) = decide (t = i ∧ v = j) := by
  show ((t == i) && ((v == j) && true)) = _
  by_cases h : t = i <;> by_cases h2 : v = j <;> simp [h, h2]
def sp_DurableState_take_ballot (T : Env K mg) : Sp := fun vs H Q E => ∃ (a g : Addr) (s : S) (t v : Int), vs = [.ref a, .int t, .int v] ∧ Ds T H a g s ∧
  (∀ s', app s (.bal t v) = some s' → ∀ b H', Ds T H' a g s' → Kd H H' a g → Q (.bl b) H') ∧ (app s (.bal t v) = none → E (.ref T.c_Refused) none H)
theorem ok_DurableState_take_ballot (T : Env K mg) : FnOk P w K mg base (L2.CX P w) 1 T.a_DurableState_take_ballot T.d_DurableState_take_ballot ["self", "term", "vote"] (sp_DurableState_take_ballot T) := by
  refine T.F_DurableState_take_ballot.okX sc_DurableState_take_ballot (fun vs H Q E h => by obtain ⟨_, _, _, _, _, rfl, _⟩ := h; rfl) (fun cdv A outer s H vs Q E hr h => ?_)
  obtain ⟨a, g, st, t, v, rfl, hD, h1, h2⟩ := h
  obtain ⟨dx, b, ha, hb⟩ := hD.at_
  have hu64 := hu64_of hr
  refine ⟨_, (pss_cons (ps_asg (pe_fld (pv 0) rfl) (pg_tup rfl (pgs_cons (pg_name (i := 3) sc_DurableState_take_ballot.nd rfl (Or.inl rfl)) (pgs_cons (pg_name (i := 4) sc_DurableState_take_ballot.nd rfl (Or.inl rfl)) pgs_nil))))
      (pss_cons (ps_if (pt_cmpR op_lt (pv 1) (pv 3) (nomark _)) (pss_one (ps_raise rfl (takes_of rfl rfl rfl rfl) (pmk_own PySem.F.excBase_ValueError T.e_Refused.xP T.e_Refused.gC T.e_Refused.kC (raises_own T.e_Refused.bP T.e_Refused.tP) (by exact rfl)))) pss_nil)
      (pss_cons (ps_if (PW.pt (pw_and (pt_cmpR op_eq (pv 1) (pv 3) (nomark _)) (pw_and (pt_cmpR op_ne (pv 4) (pe_glob rfl T.k_NO_VOTE T.r_NO_VOTE) (nomark _)) (pw_and1 (pt_cmpR op_ne (pv 2) (pv 4) (nomark _)))))) (pss_one (ps_raise rfl (takes_of rfl rfl rfl rfl) (pmk_own PySem.F.excBase_ValueError T.e_Refused.xP T.e_Refused.gC T.e_Refused.kC (raises_own T.e_Refused.bP T.e_Refused.tP) (by exact rfl)))) pss_nil)
      (pss_cons (ps_if (pt_cmpR (op_eqD hu64) (pe_fld (pv 0) rfl) (pe_tup (pa_cons (pv 1) (pa_cons (pv 2) pa_nil))) (nomark _)) (pss_one (ps_ret pe_bl)) pss_nil)
      (pss_cons (ps_fld (pv 0) (pe_tup (pa_cons (pv 1) (pa_cons (pv 2) pa_nil))) rfl)
      (pss_one (ps_ret pe_bl))))))), ?_⟩
  refine ⟨_, rfl, a, _, _, _, _, rfl, ha, T.k_DurableState.cl, T.n_DurableState_ballot, dsf_ballot _ _ _, b, _, rfl, SqT.of hb, rfl, _, _, rfl, _, _, rfl, rfl, ?_⟩
  have eapp : app st (.bal t v) = if t < st.t ∨ (t = st.t ∧ st.v ≠ -1 ∧ v ≠ st.v) then none else some ⟨t, v, st.u, st.log⟩ := rfl
  refine ⟨_, rfl, _, rfl, _, _, rfl, rfl, _, rfl, iteD (fun c => ?_) (fun c => ?_)⟩
  · have c : t < st.t := c
    exact h2 (by rw [eapp, if_pos (.inl c)])
  have c : ¬ t < st.t := c
  apply via0 (¬ (t = st.t ∧ st.v ≠ -1 ∧ v ≠ st.v))
  · intro fin
    refine ⟨_, rfl, _, rfl, rfl, _, rfl, iteD (fun c1 => ?_) (fun c1 => ifF rfl (fin fun q => c1 (congrArg V.int q.1)))⟩
    refine ⟨_, rfl, rfl, _, rfl, iteN (fun c2 => ?_) (fun c2 => ifF rfl (fin fun q => q.2.1 (V.int.inj c2)))⟩
    refine ⟨_, rfl, _, rfl, rfl, _, rfl, iteN (fun c3 => ?_) (fun c3 => fin fun q => q.2.2 (V.int.inj c3))⟩
    exact h2 (by rw [eapp, if_pos (.inr ⟨V.int.inj c1, fun q => c2 (congrArg V.int q), fun q => c3 (congrArg V.int q)⟩)])
  intro c2
  have es : app st (.bal t v) = some ⟨t, v, st.u, st.log⟩ := by rw [eapp, if_neg (fun q => q.elim c c2)]
  refine ⟨_, rfl, a, _, _, _, _, rfl, ha, T.k_DurableState.cl, T.n_DurableState_ballot, dsf_ballot _ _ _, _, rfl, _, rfl, (by show 2 ≤ sizeLine; decide), fun q nq => ?_⟩
  have sq := same_new (o := .tup [.int t, .int v]) nq
  refine ⟨_, _, dp_pair (sq _ _ hb), dp_pair upd_same, shaped_pair _ _, shaped_pair _ _, _, rfl, ?_⟩
  rw [eqv_pair]
  refine iteD (fun c3 => ?_) (fun c3 => ?_)
  · have hD2 := hD.same sq
    refine h1 _ es _ _ ?_ fun x o e _ _ => sq _ _ e
    have e3 : (⟨t, v, st.u, st.log⟩ : S) = st := by rw [← c3.1, ← c3.2]
    rw [e3]
    exact hD2
  · refine ⟨_, rfl, _, rfl, (by show 2 ≤ sizeLine; decide), fun r nr => ?_⟩
    have s2 := sq.trans (same_new (o := .tup [.int t, .int v]) nr)
    refine ⟨_, rfl, a, T.a_DurableState, dx, dsf b g st.u, rfl, s2 _ _ ha, T.k_DurableState.cl, T.n_DurableState_ballot, (by rw [dsf_eq]; show 3 < 1000; decide), ?_⟩
    rw [dsf_putB]
    have nra : r ≠ a := (ne_of_none (sq _ _ ha) nr).symm
    obtain ⟨as, hL⟩ := hD.lg
    refine h1 _ es _ _ ⟨⟨dx, r, upd_same, by rw [upd_ne nra, upd_same]⟩, as, hL.tp fun x o e hx => ?_⟩ fun x o e hx _ => by rw [upd_ne hx]; exact s2 _ _ e
    rw [upd_ne]
    · exact s2 _ _ e
    · rintro rfl
      exact hx _ _ _ (Option.some.inj (e.symm.trans ha))
def sp_DurableState_take_entry (T : Env K mg) : Sp := fun vs H Q E => ∃ (a g r : Addr) (s : S) (i t n : Int), vs = [.ref a, .int i, .int t, .ref r] ∧ Ds T H a g s ∧ 0 ≤ i ∧ s.log.length ≤ 1000 ∧ H r = some (.tup [.str "floor", .int n]) ∧
  (∀ s', app s (.ent i t n) = some s' → ∀ b H', Ds T H' a g s' → Kd H H' a g → Q (.bl b) H') ∧ (app s (.ent i t n) = none → E (.ref T.c_Refused) none H)
theorem ok_DurableState_take_entry (T : Env K mg) : FnOk P w K mg base (L2.CX P w) 1 T.a_DurableState_take_entry T.d_DurableState_take_entry ["self", "index", "term", "record"] (sp_DurableState_take_entry T) := by
  refine T.F_DurableState_take_entry.okX sc_DurableState_take_entry (fun vs H Q E h => by obtain ⟨_, _, _, _, _, _, _, rfl, _⟩ := h; rfl) (fun cdv A outer s H vs Q E hr h => ?_)
  obtain ⟨a, g, r, st, i, t, n, rfl, hD, h0, hlen, hr2, h1, h2⟩ := h
  obtain ⟨dx, b, ha, hb⟩ := hD.at_
  obtain ⟨as, hL⟩ := hD.lg
  have hu64 := hu64_of hr
  refine ⟨_, (pss_cons (ps_if (pt_cmpR op_gt (pv 1) (pe_callB call_len (by rfl) T.z_len (by decide +kernel) (pa_cons (pe_fld (pv 0) rfl) pa_nil)) (nomark _)) (pss_one (ps_raise rfl (takes_of rfl rfl rfl rfl) (pmk_own PySem.F.excBase_ValueError T.e_Refused.xP T.e_Refused.gC T.e_Refused.kC (raises_own T.e_Refused.bP T.e_Refused.tP) (by exact rfl)))) pss_nil)
      (pss_cons (ps_if (pt_cmpR op_gt (pv 2) (pe_ix ix_tup (pe_fld (pv 0) rfl) pe_int (fun _ _ => rfl)) (nomark _)) (pss_one (ps_raise rfl (takes_of rfl rfl rfl rfl) (pmk_own PySem.F.excBase_ValueError T.e_Refused.xP T.e_Refused.gC T.e_Refused.kC (raises_own T.e_Refused.bP T.e_Refused.tP) (by exact rfl)))) pss_nil)
      (pss_cons (ps_if (PW.pt (pw_and (pt_cmpR op_gt (pv 1) pe_int (nomark _)) (pw_and1 (pt_cmpR op_lt (pv 2) (pe_ix ix_tup (pe_ix ix_list (pe_fld (pv 0) rfl) (pe_op op_sub (pv 1) pe_int) (fun _ _ => rfl)) pe_int (fun _ _ => rfl)) (nomark _))))) (pss_one (ps_raise rfl (takes_of rfl rfl rfl rfl) (pmk_own PySem.F.excBase_ValueError T.e_Refused.xP T.e_Refused.gC T.e_Refused.kC (raises_own T.e_Refused.bP T.e_Refused.tP) (by exact rfl)))) pss_nil)
      (pss_cons (ps_delF (pe_fld (pv 0) rfl) (po_some (pv 1)))
      (pss_cons (ps_expr (pe_bm PySem.F.plainAttrs_list PySem.F.slot_list_append PySem.F.type_list_append mt_append (pe_fld (pv 0) rfl) (pa_cons (pe_tup (pa_cons (pv 2) (pa_cons (pv 3) pa_nil))) pa_nil)))
      (pss_one (ps_ret pe_bl))))))), ?_⟩
  have eapp : app st (.ent i t n) = if i > (st.log.length : Nat) ∨ t > st.t ∨ (i > 0 ∧ t < last1 st.log i) then none else some ⟨st.t, st.v, st.u, st.log.take i.toNat ++ [(t, n)]⟩ := rfl
  have nga : g ≠ a := fun e => by
    have := hL.at_
    rw [e, ha] at this
    cases this
  have ngb : b ≠ g := fun e => by
    have := hL.at_
    rw [← e, hb] at this
    cases this
  have alen := hL.len
  refine ⟨_, rfl, _, rfl, a, _, _, _, _, rfl, ha, T.k_DurableState.cl, T.n_DurableState_log, dsf_log _ _ _, _, _, rfl, .inl ⟨_, SqL.of hL.at_, rfl⟩, _, _, rfl, rfl, _, rfl, ?_⟩
  rw [List.length_map, alen]
  refine iteD (fun c => h2 (by rw [eapp, if_pos (.inl c)])) (fun c => ?_)
  have c : ¬ i > (st.log.length : Nat) := c
  refine ⟨_, rfl, _, rfl, a, _, _, _, _, rfl, ha, T.k_DurableState.cl, T.n_DurableState_ballot, dsf_ballot _ _ _, b, _, _, .int st.t, rfl, rfl, SqT.of hb, atI_nat (j := 0) rfl, _, _, rfl, rfl, _, rfl, iteD (fun c1 => h2 (by rw [eapp, if_pos (.inr (.inl c1))])) (fun c1 => ?_)⟩
  have c1 : ¬ t > st.t := c1
  apply via0 (¬ (i > 0 ∧ t < last1 st.log i))
  · intro fin
    refine ⟨_, rfl, _, _, rfl, rfl, _, rfl, iteD (fun c2 => ?_) (fun c2 => ifF rfl (fin fun q => c2 q.1))⟩
    have c2 : i > 0 := c2
    have hj : i.toNat - 1 < as.length := by omega
    obtain ⟨x, hx⟩ : ∃ x, as[i.toNat - 1]? = some x := ⟨_, List.getElem?_eq_getElem hj⟩
    obtain ⟨e, he, r2, hx1, hx2⟩ := hL.each _ x hx
    have el : last1 st.log i = e.1 := by
      unfold last1
      rw [List.getD_eq_getElem?_getD, he]
      rfl
    refine ⟨_, rfl, _, rfl, a, _, _, _, _, rfl, ha, T.k_DurableState.cl, T.n_DurableState_log, dsf_log _ _ _, _, rfl, _, _, rfl, rfl, g, _, _, .ref x, rfl, rfl, SqL.of hL.at_, at_of (j := i.toNat - 1) (by omega) (by rw [List.getElem?_map, hx]; rfl), x, _, _, .int e.1, rfl, rfl, SqT.of hx1, atI_nat (j := 0) rfl, _, _, rfl, rfl, _, rfl, iteD (fun c3 => h2 ?_) (fun c3 => fin fun q => ?_)⟩
    · have c3 : t < e.1 := c3
      rw [eapp, if_pos (.inr (.inr ⟨c2, by rw [el]; exact c3⟩))]
    · have c3 : ¬ t < e.1 := c3
      rw [el] at q
      exact c3 q.2
  intro c2
  have es : app st (.ent i t n) = some ⟨st.t, st.v, st.u, st.log.take i.toNat ++ [(t, n)]⟩ := by rw [eapp, if_neg (fun q => q.elim c fun q => q.elim c1 c2)]
  refine ⟨_, rfl, a, _, _, _, _, rfl, ha, T.k_DurableState.cl, T.n_DurableState_log, dsf_log _ _ _, _, rfl, _, rfl, g, _, i, rfl, rfl, h0, hL.at_, ?_⟩
  have ha1 : (upd H g (.lst ((as.map V.ref).take i.toNat))) a = some (.ins T.a_DurableState dx (dsf b g st.u)) := by rw [upd_ne nga.symm]; exact ha
  refine ⟨_, rfl, a, _, _, _, _, rfl, ha1, T.k_DurableState.cl, T.n_DurableState_log, dsf_log _ _ _, .inl ⟨rfl, _, SqL.of upd_same⟩, _, rfl, _, rfl, (by show 2 ≤ sizeLine; decide), fun q nq => ?_⟩
  have nqg : q ≠ g := fun e => by
    rw [e, upd_same] at nq
    cases nq
  have nq0 : H q = none := by
    rw [upd_ne nqg] at nq
    exact nq
  refine ⟨g, _, _, rfl, rfl, same_new nq _ _ upd_same, szl (by rw [List.length_take, List.length_map]; omega), ?_⟩
  have frame : ∀ x o, H x = some o → x ≠ g → (upd (upd (upd H g (.lst ((as.map V.ref).take i.toNat))) q (.tup [.int t, .ref r])) g (.lst ((as.map V.ref).take i.toNat ++ [.ref q]))) x = some o := fun x o e hx => by
    rw [upd_ne hx, upd_ne (ne_of_none e nq0), upd_ne hx]
    exact e
  have nt : ∀ {x : Addr} {xs : List V}, H x = some (.tup xs) → x ≠ g := fun {x xs} hx e => by
    have := hL.at_
    rw [← e, hx] at this
    cases this
  refine h1 _ es _ _ ⟨⟨dx, b, frame _ _ ha nga.symm, frame _ _ hb ngb⟩, as.take i.toNat ++ [q], ?_, ?_, ?_⟩ fun x o e _ hx => frame x o e hx
  · rw [upd_same, List.map_append, List.map_take]
    rfl
  · rw [List.length_append, List.length_append, List.length_take, List.length_take, alen]
    rfl
  · intro j x hj
    by_cases k : j < (as.take i.toNat).length
    · rw [List.getElem?_append_left k] at hj
      have k2 : j < i.toNat := by
        rw [List.length_take] at k
        omega
      rw [List.getElem?_take, if_pos k2] at hj
      obtain ⟨e, he, r2, hx1, hx2⟩ := hL.each j x hj
      refine ⟨e, ?_, r2, frame _ _ hx1 (nt hx1), frame _ _ hx2 (nt hx2)⟩
      rw [List.getElem?_append_left (by rw [List.length_take] at k ⊢; omega), List.getElem?_take, if_pos k2]
      exact he
    · have k3 : (as.take i.toNat).length = (st.log.take i.toNat).length := by rw [List.length_take, List.length_take, alen]
      rw [List.getElem?_append_right (by omega)] at hj
      have hj2 : j - (as.take i.toNat).length = 0 := by
        have h3 : j - (as.take i.toNat).length < 1 := (List.getElem?_eq_some_iff.mp hj).1
        omega
      rw [hj2] at hj
      have : q = x := Option.some.inj hj
      subst this
      refine ⟨(t, n), by rw [List.getElem?_append_right (by omega), ← k3, hj2]; rfl, r, ?_, frame _ _ hr2 (nt hr2)⟩
      rw [upd_ne nqg, upd_same]
def sp_DurableState_take (T : Env K mg) : Sp := fun vs H Q E => ∃ (a g x : Addr) (s : S) (n : Nt), vs = [.ref a, .ref x] ∧ Ds T H a g s ∧ NoteAt H x n ∧ s.log.length ≤ 1000 ∧
  (∀ s', app s n = some s' → ∀ b H', Ds T H' a g s' → Kd H H' a g → Q (.bl b) H') ∧ (app s n = none → E (.ref T.c_Refused) none H)
theorem ok_DurableState_take (T : Env K mg) : FnOk P w K mg base (L2.CX P w) 2 T.a_DurableState_take T.d_DurableState_take ["self", "note"] (sp_DurableState_take T) := by
  refine T.F_DurableState_take.okX sc_DurableState_take (fun vs H Q E h => by obtain ⟨_, _, _, _, _, rfl, _⟩ := h; rfl) (fun cdv A outer s H vs Q E hr h => ?_)
  obtain ⟨a, g, x, st, n, rfl, hD, hn, hlen, h1, h2⟩ := h
  obtain ⟨dx, b, ha, hb⟩ := hD.at_
  have hu64 := hu64_of hr
  have G_DurableState_take_entry := ok_DurableState_take_entry (P := P) (w := w) (base := base) T
  have G_DurableState_take_ballot := ok_DurableState_take_ballot (P := P) (w := w) (base := base) T
  have G_DurableState_take_promise := ok_DurableState_take_promise (P := P) (w := w) (base := base) T
  refine ⟨_, (pss_cons (ps_if (pt_cmpR op_eq (pe_ix ix_tup (pv 1) pe_int (fun _ _ => rfl)) pe_str (nomark _)) (pss_one (ps_ret (pe_meth (pv 0) T.k_DurableState.cl T.m_DurableState_take_ballot G_DurableState_take_ballot (hr.mono (by decide)) T.b_DurableState_take_ballot .nil (passes_call (takes_of rfl rfl rfl rfl) (fun _ _ _ _ x => x)) (pa_cons (pe_ix ix_tup (pv 1) pe_int (fun _ _ => rfl)) (pa_cons (pe_ix ix_tup (pv 1) pe_int (fun _ _ => rfl)) pa_nil))))) pss_nil)
      (pss_cons (ps_if (pt_cmpR op_eq (pe_ix ix_tup (pv 1) pe_int (fun _ _ => rfl)) pe_str (nomark _)) (pss_one (ps_ret (pe_meth (pv 0) T.k_DurableState.cl T.m_DurableState_take_promise G_DurableState_take_promise (hr.mono (by decide)) T.b_DurableState_take_promise .nil (passes_call (takes_of rfl rfl rfl rfl) (fun _ _ _ _ x => x)) (pa_cons (pe_ix ix_tup (pv 1) pe_int (fun _ _ => rfl)) pa_nil)))) pss_nil)
      (pss_one (ps_ret (pe_meth (pv 0) T.k_DurableState.cl T.m_DurableState_take_entry G_DurableState_take_entry (hr.mono (by decide)) T.b_DurableState_take_entry .nil (passes_call (takes_of rfl rfl rfl rfl) (fun _ _ _ _ x => x)) (pa_cons (pe_ix ix_tup (pv 1) pe_int (fun _ _ => rfl)) (pa_cons (pe_ix ix_tup (pv 1) pe_int (fun _ _ => rfl)) (pa_cons (pe_ix ix_tup (pv 1) pe_int (fun _ _ => rfl)) pa_nil)))))))), ?_⟩
  cases n with
  | bal t v =>
    have hn : H x = some (.tup [.str "ballot", .int t, .int v]) := hn
    refine ⟨_, rfl, x, _, _, .str "ballot", rfl, rfl, SqT.of hn, atI_nat (j := 0) rfl, rfl, _, rfl, ifT (decide_eq_true rfl) ?_⟩
    exact ⟨_, rfl, a, dx, _, rfl, ha, dsf_no _ _ _ (by decide +kernel) (by decide +kernel) (by decide +kernel), _, rfl, x, _, _, .int t, rfl, rfl, SqT.of hn, atI_nat (j := 1) rfl, _, rfl, x, _, _, .int v, rfl, rfl, SqT.of hn, atI_nat (j := 2) rfl, a, g, st, t, v, rfl, hD, h1, h2⟩
  | pro p =>
    have hn : H x = some (.tup [.str "promise", .int p]) := hn
    refine ⟨_, rfl, x, _, _, .str "promise", rfl, rfl, SqT.of hn, atI_nat (j := 0) rfl, rfl, _, rfl, ifF (decide_eq_false fun q => absurd (V.str.inj q) (by decide +kernel)) ?_⟩
    refine ⟨_, rfl, x, _, _, .str "promise", rfl, rfl, SqT.of hn, atI_nat (j := 0) rfl, rfl, _, rfl, ifT (decide_eq_true rfl) ?_⟩
    exact ⟨_, rfl, a, dx, _, rfl, ha, dsf_no _ _ _ (by decide +kernel) (by decide +kernel) (by decide +kernel), _, rfl, x, _, _, .int p, rfl, rfl, SqT.of hn, atI_nat (j := 1) rfl, a, g, st, p, rfl, hD, h1 _ rfl⟩
  | ent i t n =>
    obtain ⟨h0, r, hn, hr2⟩ := hn
    refine ⟨_, rfl, x, _, _, .str "entry", rfl, rfl, SqT.of hn, atI_nat (j := 0) rfl, rfl, _, rfl, ifF (decide_eq_false fun q => absurd (V.str.inj q) (by decide +kernel)) ?_⟩
    refine ⟨_, rfl, x, _, _, .str "entry", rfl, rfl, SqT.of hn, atI_nat (j := 0) rfl, rfl, _, rfl, ifF (decide_eq_false fun q => absurd (V.str.inj q) (by decide +kernel)) ?_⟩
    exact ⟨_, rfl, a, dx, _, rfl, ha, dsf_no _ _ _ (by decide +kernel) (by decide +kernel) (by decide +kernel), _, rfl, x, _, _, .int i, rfl, rfl, SqT.of hn, atI_nat (j := 1) rfl, _, rfl, x, _, _, .int t, rfl, rfl, SqT.of hn, atI_nat (j := 2) rfl, _, rfl, x, _, _, .ref r, rfl, rfl, SqT.of hn, atI_nat (j := 3) rfl, a, g, r, st, i, t, n, rfl, hD, h0, hlen, hr2, h1, h2⟩

--PART /work/steering/wip/parts/k13.lean
/-! ### replaying -/
def foldN : S → List Nt → Option S
  | s, [] => some s
  | s, n :: r => (app s n).bind fun s' => foldN s' r
/-- a list of notes at p -/
structure Ns (H : Hp) (p : Addr) (as : List Addr) (ns : List Nt) : Prop where
  at_ : H p = some (.lst (as.map V.ref))
  len : as.length = ns.length
  each : ∀ (j : Nat) (x : Addr), as[j]? = some x → ∃ n, ns[j]? = some n ∧ NoteAt H x n
theorem Ns.same {H H' : Hp} {p : Addr} {as : List Addr} {ns : List Nt} (h : Ns H p as ns) (s : Same H H') : Ns H' p as ns :=
  ⟨s _ _ h.at_, h.len, fun j x hj => by
    obtain ⟨n, h1, h2⟩ := h.each j x hj
    exact ⟨n, h1, h2.tp (Same.tp s)⟩⟩
theorem app_len {s s' : S} {n : Nt} (h : app s n = some s') : s'.log.length ≤ s.log.length + 1 := by
  cases n with
  | bal t v =>
    have h : (if t < s.t ∨ (t = s.t ∧ s.v ≠ -1 ∧ v ≠ s.v) then none else some (⟨t, v, s.u, s.log⟩ : S)) = some s' := h
    split at h
    · cases h
    · cases h
      exact Nat.le_succ _
  | pro p =>
    cases (show some (⟨s.t, s.v, if p > s.u then p else s.u, s.log⟩ : S) = some s' from h)
    exact Nat.le_succ _
  | ent i t n =>
    have h : (if i > (s.log.length : Nat) ∨ t > s.t ∨ (i > 0 ∧ t < last1 s.log i) then none else some (⟨s.t, s.v, s.u, s.log.take i.toNat ++ [(t, n)]⟩ : S)) = some s' := h
    split at h
    · cases h
    · cases h
      show (s.log.take i.toNat ++ [(t, n)]).length ≤ _
      rw [List.length_append, List.length_take]
      show min i.toNat s.log.length + 1 ≤ _
      omega
theorem foldN_snoc : ∀ (ns : List Nt) (s : S) (n : Nt), foldN s (ns ++ [n]) = (foldN s ns).bind fun s' => app s' n
  | [], s, n => by
    show (app s n).bind (fun s' => some s') = app s n
    cases app s n <;> rfl
  | m :: r, s, n => by
    show (app s m).bind (fun s' => foldN s' (r ++ [n])) = ((app s m).bind fun s' => foldN s' r).bind fun s' => app s' n
    cases e : app s m with
    | none => rfl
    | some s' => exact foldN_snoc r s' n
def s0 : S := ⟨0, -1, 0, []⟩
def sp_state_after (T : Env K mg) : Sp := fun vs H Q E => ∃ (p : Addr) (as : List Addr) (ns : List Nt), vs = [.ref p] ∧ Ns H p as ns ∧ ns.length ≤ 1000 ∧
  (∀ s', foldN s0 ns = some s' → ∀ a g H', Same H H' → H a = none → H g = none → Ds T H' a g s' → Q (.ref a) H') ∧ (foldN s0 ns = none → ∀ H', Same H H' → E (.ref T.c_Refused) none H')
theorem ok_state_after (T : Env K mg) : FnOk P w K mg base (L2.CX P w) 3 T.a_state_after T.d_state_after ["notes"] (sp_state_after T) := by
  refine T.F_state_after.okX sc_state_after (fun vs H Q E h => by obtain ⟨_, _, _, rfl, _⟩ := h; rfl) (fun cdv A outer s H vs Q E hr h => ?_)
  obtain ⟨p, as, ns, rfl, hN, hlen, h1, h2⟩ := h
  have hu64 := hu64_of hr
  have G_DurableState_init := ok_DurableState_init (P := P) (w := w) (base := base) T
  have G_DurableState_take := ok_DurableState_take (P := P) (w := w) (base := base) T
  refine ⟨_, (pss_cons (ps_set (i := 1) sc_state_after.nd rfl (Or.inl rfl) (pe_make0 T.M_DurableState G_DurableState_init (hr.mono (by decide)) rfl T.k_DurableState.mgC T.b_DurableState_init .nil (passes_call (takes_of rfl rfl rfl rfl) (fun _ _ _ _ x => x))))
      (pss_cons (ps_for (passes_of rfl) rfl (pi_list (pv 0)) (pg_name (i := 2) sc_state_after.nd rfl (Or.inl rfl)) (pss_one (ps_expr (pe_meth (pv 1) T.k_DurableState.cl T.m_DurableState_take G_DurableState_take (hr.mono (by decide)) T.b_DurableState_take .nil (passes_call (takes_of rfl rfl rfl rfl) (fun _ _ _ _ x => x)) (pa_cons (pv 2) pa_nil)))))
      (pss_one (ps_ret (pv 1))))), ?_⟩
  refine fun a dx na nd ne => ⟨a, dx, rfl, upd_same, fun g H1 ng hD kp => ⟨rfl, ?_⟩⟩
  have sM : Same H (upd (upd H dx (.own a)) a (.ins T.a_DurableState dx [])) := Same.made na nd fun b o e _ => e
  have s1 : Same H H1 := Same.made na nd kp
  have ng0 : H g = none := sM.free ng
  refine ⟨_, rfl, p, rfl, ⟨_, s1.seq (SqL.of hN.at_)⟩, for_list (K := K) (a := p) (xs := as.map V.ref) (fun i σ H' => ∃ st v, σ = [some (.ref p), some (.ref a), v] ∧ Same H H' ∧ Ds T H' a g st ∧ foldN s0 ns = foldN st (ns.drop i) ∧ st.log.length ≤ i) ⟨s0, none, rfl, s1, hD, rfl, Nat.le_refl _⟩ (fun i σ H' _ h => by obtain ⟨_, _, _, s1, _⟩ := h; exact s1.seq (SqL.of hN.at_)) ?_ ?_⟩
  · rintro i y σ H' hi ⟨st, v, rfl, s1, hD, he, hl⟩
    obtain ⟨x, hx, rfl⟩ : ∃ x, as[i]? = some x ∧ y = V.ref x := by
      rw [List.getElem?_map] at hi
      cases e : as[i]? with
      | none => rw [e] at hi; cases hi
      | some u => rw [e] at hi; exact ⟨u, rfl, (Option.some.inj hi).symm⟩
    obtain ⟨n, hn, hx2⟩ := hN.each i x hx
    have il : i < ns.length := (List.getElem?_eq_some_iff.mp hn).1
    have ed : ns.drop i = n :: ns.drop (i + 1) := by
      rw [List.drop_eq_getElem_cons il]
      congr 1
      exact Option.some.inj ((List.getElem?_eq_getElem il).symm.trans hn)
    rw [ed] at he
    have he : foldN s0 ns = (app st n).bind fun s' => foldN s' (ns.drop (i + 1)) := he
    obtain ⟨dx2, b2, ha2, hb2⟩ := hD.at_
    refine ⟨_, rfl, a, dx2, _, rfl, ha2, dsf_no _ _ _ (by decide +kernel) (by decide +kernel) (by decide +kernel), _, rfl, a, g, x, st, n, rfl, hD, hx2.tp (Same.tp s1), by omega, fun s' ea b H2 hD2 kd => ?_, fun ea => ?_⟩
    · rw [ea] at he
      have := app_len ea
      exact ⟨s', _, rfl, fun z o e => kd z o (s1 _ _ e) (ne_of_none e na) (ne_of_none e ng0), hD2, he, by omega⟩
    · rw [ea] at he
      exact h2 he _ s1
  · rintro σ H' ⟨st, v, rfl, s1, hD, he, hl⟩
    rw [List.length_map, hN.len, List.drop_length] at he
    exact ⟨_, rfl, h1 st he a g H' s1 na ng0 hD⟩
def sp_replay (T : Env K mg) : Sp := fun vs H Q E => ∃ (p : Addr) (as : List Addr) (ns : List Nt), vs = [.ref p] ∧ Ns H p as ns ∧ ns.length ≤ 1000 ∧
  (∀ s', foldN s0 ns = some s' → ∀ x g las H', Same H H' → H' x = some (.tup [.int s'.t, .int s'.v, .int s'.u, .ref g]) → Lg H' g las s'.log → Q (.ref x) H') ∧ (foldN s0 ns = none → ∀ H', Same H H' → E (.ref T.c_Refused) none H')
theorem ok_replay (T : Env K mg) : FnOk P w K mg base (L2.CX P w) 4 T.a_replay T.d_replay ["notes"] (sp_replay T) := by
  refine T.F_replay.okX sc_replay (fun vs H Q E h => by obtain ⟨_, _, _, rfl, _⟩ := h; rfl) (fun cdv A outer s H vs Q E hr h => ?_)
  obtain ⟨p, as, ns, rfl, hN, hlen, h1, h2⟩ := h
  have hu64 := hu64_of hr
  have G_state_after := ok_state_after (P := P) (w := w) (base := base) T
  refine ⟨_, (pss_cons (ps_set (i := 1) sc_replay.nd rfl (Or.inl rfl) (pe_call G_state_after (hr.mono (by decide)) rfl T.g_state_after T.F_state_after.kp T.b_state_after .nil (passes_call (takes_of rfl rfl rfl rfl) (fun _ _ _ _ x => x)) (pa_cons (pv 0) pa_nil)))
      (pss_cons (ps_asg (pe_fld (pv 1) rfl) (pg_tup rfl (pgs_cons (pg_name (i := 2) sc_replay.nd rfl (Or.inl rfl)) (pgs_cons (pg_name (i := 3) sc_replay.nd rfl (Or.inl rfl)) pgs_nil))))
      (pss_one (ps_ret (pe_tup (pa_cons (pv 2) (pa_cons (pv 3) (pa_cons (pe_fld (pv 1) rfl) (pa_cons (pe_fld (pv 1) rfl) pa_nil))))))))), ?_⟩
  refine ⟨_, rfl, p, as, ns, rfl, hN, hlen, fun s' es a g H1 s1 na ng hD => ?_, fun en H1 s1 => h2 en H1 s1⟩
  obtain ⟨dx, b, ha, hb⟩ := hD.at_
  obtain ⟨las, hL⟩ := hD.lg
  refine ⟨_, rfl, a, _, _, _, _, rfl, ha, T.k_DurableState.cl, T.n_DurableState_ballot, dsf_ballot _ _ _, b, _, rfl, SqT.of hb, rfl, _, _, rfl, _, _, rfl, rfl, ?_⟩
  refine ⟨_, rfl, _, rfl, _, rfl, a, _, _, _, _, rfl, ha, T.k_DurableState.cl, T.n_DurableState_until, dsf_until _ _ _, _, rfl, a, _, _, _, _, rfl, ha, T.k_DurableState.cl, T.n_DurableState_log, dsf_log _ _ _, (by show 4 ≤ sizeLine; decide), fun x nx => ?_⟩
  have s2 := same_new (o := .tup [.int s'.t, .int s'.v, .int s'.u, .ref g]) nx
  exact h1 s' es x g las _ (s1.trans s2) upd_same (hL.same s2)
def sp__law_refused (T : Env K mg) : Sp := fun vs H Q E => ∃ (p : Addr) (as : List Addr) (ns : List Nt), vs = [.ref p] ∧ Ns H p as ns ∧ ns.length ≤ 1000 ∧ foldN s0 ns = none ∧ ∀ H', Same H H' → Q (.bl true) H'
theorem ok__law_refused (T : Env K mg) : FnOk P w K mg base (L2.CX P w) 5 T.a__law_refused T.d__law_refused ["notes"] (sp__law_refused T) := by
  refine T.F__law_refused.okX sc__law_refused (fun vs H Q E h => by obtain ⟨_, _, _, rfl, _⟩ := h; rfl) (fun cdv A outer s H vs Q E hr h => ?_)
  obtain ⟨p, as, ns, rfl, hN, hlen, hn, h1⟩ := h
  have hu64 := hu64_of hr
  have G_replay := ok_replay (P := P) (w := w) (base := base) T
  refine ⟨_, (pss_cons (ps_try_only rfl rfl ⟨rfl, by decide, .inl T.e_Refused.gC⟩ takes0 (fun W pn xe tk po => (pss_one (ps_expr (pe_callS G_replay (hr.mono (by decide)) rfl T.g_replay T.F_replay.kp T.b_replay (fun σ => passAt tk σ) (pa_cons (pv 0) pa_nil))))) (fun a oe cls d pn hz hf => (pss_one (ps_ret pe_bl))))
      (pss_one (ps_ret pe_bl))), ?_⟩
  exact ⟨_, rfl, p, as, ns, rfl, hN, hlen, fun s' es => (by rw [hn] at es; cases es), fun _ H1 s1 => ⟨true, T.u_Refused_Refused, fun _ y _ => h1 _ s1, fun q => Bool.noConfusion q⟩⟩
/-! the law's own words -/
structure LsAt (H : Hp) (p g : Addr) (as : List Addr) (s : S) : Prop where
  at_ : H p = some (.lst [.int s.t, .int s.v, .int s.u, .ref g])
  lg : Lg H g as s.log
theorem LsAt.same {H H' : Hp} {p g : Addr} {as : List Addr} {s : S} (h : LsAt H p g as s) (k : Same H H') : LsAt H' p g as s := ⟨k _ _ h.at_, h.lg.same k⟩
def sp__law_apply (T : Env K mg) : Sp := fun vs H Q E => ∃ (p g x : Addr) (as : List Addr) (s : S) (n : Nt), vs = [.ref p, .ref x] ∧ LsAt H p g as s ∧ NoteAt H x n ∧ s.log.length ≤ 1000 ∧
  (∀ s', app s n = some s' → ∀ p' g' as' H', Same H H' → H p' = none → (g' = g ∨ H g' = none) → LsAt H' p' g' as' s' → Q (.ref p') H') ∧ (app s n = none → Q .non H)
theorem ok__law_apply (T : Env K mg) : FnOk P w K mg base (L2.CX P w) 1 T.a__law_apply T.d__law_apply ["state", "note"] (sp__law_apply T) := by
  refine T.F__law_apply.okX sc__law_apply (fun vs H Q E h => by obtain ⟨_, _, _, _, _, _, rfl, _⟩ := h; rfl) (fun cdv A outer s H vs Q E hr h => ?_)
  obtain ⟨p, g, x, as, st, n, rfl, hS, hn, hlen, h1, h2⟩ := h
  have hp := hS.at_
  have hL := hS.lg
  have alen := hL.len
  refine ⟨_, (pss_cons (ps_set (i := 2) sc__law_apply.nd rfl (Or.inl rfl) (pe_ix ix_list (pv 0) pe_int (fun _ _ => rfl)))
      (pss_cons (ps_set (i := 3) sc__law_apply.nd rfl (Or.inl rfl) (pe_ix ix_list (pv 0) pe_int (fun _ _ => rfl)))
      (pss_cons (ps_set (i := 4) sc__law_apply.nd rfl (Or.inl rfl) (pe_ix ix_list (pv 0) pe_int (fun _ _ => rfl)))
      (pss_cons (ps_if (pt_cmpR op_eq (pe_ix ix_tup (pv 1) pe_int (fun _ _ => rfl)) pe_str (nomark _)) (pss_one (ps_ret (pe_lst (pa_cons (pv 2) (pa_cons (pv 3) (pa_cons (pe_callB (call_max2 rfl) (by rfl) T.z_max (by decide +kernel) (pa_cons (pe_ix ix_list (pv 0) pe_int (fun _ _ => rfl)) (pa_cons (pe_ix ix_tup (pv 1) pe_int (fun _ _ => rfl)) pa_nil))) (pa_cons (pv 4) pa_nil))))))) pss_nil)
      (pss_cons (ps_if (pt_cmpR op_eq (pe_ix ix_tup (pv 1) pe_int (fun _ _ => rfl)) pe_str (nomark _)) (pss_cons (ps_if (PW.pt (pw_or (pt_cmpR op_lt (pe_ix ix_tup (pv 1) pe_int (fun _ _ => rfl)) (pv 2) (nomark _)) (pw_or1 (PW.pt (pw_and (pt_cmpR op_eq (pe_ix ix_tup (pv 1) pe_int (fun _ _ => rfl)) (pv 2) (nomark _)) (pw_and (pt_cmpR op_ne (pv 3) (pe_un un_neg pe_int) (nomark _)) (pw_and1 (pt_cmpR op_ne (pe_ix ix_tup (pv 1) pe_int (fun _ _ => rfl)) (pv 3) (nomark _))))))))) (pss_one (ps_ret pe_non)) pss_nil)
      (pss_one (ps_ret (pe_lst (pa_cons (pe_ix ix_tup (pv 1) pe_int (fun _ _ => rfl)) (pa_cons (pe_ix ix_tup (pv 1) pe_int (fun _ _ => rfl)) (pa_cons (pe_ix ix_list (pv 0) pe_int (fun _ _ => rfl)) (pa_cons (pv 4) pa_nil)))))))) pss_nil)
      (pss_cons (ps_if (PW.pt (pw_or (pt_cmpR op_gt (pe_ix ix_tup (pv 1) pe_int (fun _ _ => rfl)) (pe_callB call_len (by rfl) T.z_len (by decide +kernel) (pa_cons (pv 4) pa_nil)) (nomark _)) (pw_or (pt_cmpR op_gt (pe_ix ix_tup (pv 1) pe_int (fun _ _ => rfl)) (pv 2) (nomark _)) (pw_or1 (PW.pt (pw_and (pt_cmpR op_gt (pe_ix ix_tup (pv 1) pe_int (fun _ _ => rfl)) pe_int (nomark _)) (pw_and1 (pt_cmpR op_lt (pe_ix ix_tup (pv 1) pe_int (fun _ _ => rfl)) (pe_ix ix_tup (pe_ix ix_list (pv 4) (pe_op op_sub (pe_ix ix_tup (pv 1) pe_int (fun _ _ => rfl)) pe_int) (fun _ _ => rfl)) pe_int (fun _ _ => rfl)) (nomark _))))))))) (pss_one (ps_ret pe_non)) pss_nil)
      (pss_one (ps_ret (pe_lst (pa_cons (pv 2) (pa_cons (pv 3) (pa_cons (pe_ix ix_list (pv 0) pe_int (fun _ _ => rfl)) (pa_cons (pe_op op_cat (pe_slice sl_list (pv 4) po_none (po_some (pe_ix ix_tup (pv 1) pe_int (fun _ _ => rfl)))) (pe_lst (pa_cons (pe_tup (pa_cons (pe_ix ix_tup (pv 1) pe_int (fun _ _ => rfl)) (pa_cons (pe_ix ix_tup (pv 1) pe_int (fun _ _ => rfl)) pa_nil))) pa_nil))) pa_nil))))))))))))), ?_⟩
  refine ⟨_, rfl, p, _, _, .int st.t, rfl, rfl, SqL.of hp, atI_nat (j := 0) rfl, ?_⟩
  refine ⟨_, rfl, p, _, _, .int st.v, rfl, rfl, SqL.of hp, atI_nat (j := 1) rfl, ?_⟩
  refine ⟨_, rfl, p, _, _, .ref g, rfl, rfl, SqL.of hp, atI_nat (j := 3) rfl, ?_⟩
  cases n with
  | pro q =>
    have hn : H x = some (.tup [.str "promise", .int q]) := hn
    refine ⟨_, rfl, x, _, _, .str "promise", rfl, rfl, SqT.of hn, atI_nat (j := 0) rfl, rfl, _, rfl, ifT (decide_eq_true rfl) ?_⟩
    refine ⟨_, rfl, _, rfl, _, rfl, p, _, _, .int st.u, rfl, rfl, SqL.of hp, atI_nat (j := 2) rfl, _, rfl, x, _, _, .int q, rfl, rfl, SqT.of hn, atI_nat (j := 1) rfl, _, _, rfl, _, rfl, (by show 4 ≤ sizeLine; decide), fun r nr => ?_⟩
    exact h1 _ rfl r g as _ (same_new nr) nr (.inl rfl) ⟨upd_same, hL.same (same_new nr)⟩
  | bal t v =>
    have hn : H x = some (.tup [.str "ballot", .int t, .int v]) := hn
    have eapp : app st (.bal t v) = if t < st.t ∨ (t = st.t ∧ st.v ≠ -1 ∧ v ≠ st.v) then none else some ⟨t, v, st.u, st.log⟩ := rfl
    refine ⟨_, rfl, x, _, _, .str "ballot", rfl, rfl, SqT.of hn, atI_nat (j := 0) rfl, rfl, _, rfl, ifF (decide_eq_false fun q => absurd (V.str.inj q) (by decide +kernel)) ?_⟩
    refine ⟨_, rfl, x, _, _, .str "ballot", rfl, rfl, SqT.of hn, atI_nat (j := 0) rfl, rfl, _, rfl, ifT (decide_eq_true rfl) ?_⟩
    refine ⟨_, rfl, x, _, _, .int t, rfl, rfl, SqT.of hn, atI_nat (j := 1) rfl, _, rfl, _, _, rfl, rfl, _, rfl, iteD (fun c => ifT rfl (h2 (by rw [eapp, if_pos (.inl c)]))) (fun c => ?_)⟩
    have c : ¬ t < st.t := c
    apply via0 (¬ (t = st.t ∧ st.v ≠ -1 ∧ v ≠ st.v))
    · intro fin
      refine ⟨_, rfl, x, _, _, .int t, rfl, rfl, SqT.of hn, atI_nat (j := 1) rfl, _, rfl, rfl, _, rfl, iteD (fun c1 => ?_) (fun c1 => ifF rfl (fin fun q => c1 (congrArg V.int q.1)))⟩
      refine ⟨_, rfl, _, rfl, rfl, _, rfl, iteN (fun c2 => ?_) (fun c2 => ifF rfl (fin fun q => q.2.1 (V.int.inj c2)))⟩
      refine ⟨_, rfl, x, _, _, .int v, rfl, rfl, SqT.of hn, atI_nat (j := 2) rfl, _, rfl, rfl, _, rfl, iteN (fun c3 => ?_) (fun c3 => fin fun q => q.2.2 (V.int.inj c3))⟩
      exact h2 (by rw [eapp, if_pos (.inr ⟨V.int.inj c1, fun q => c2 (congrArg V.int q), fun q => c3 (congrArg V.int q)⟩)])
    · intro c2
      have es : app st (.bal t v) = some ⟨t, v, st.u, st.log⟩ := by rw [eapp, if_neg (fun q => q.elim c c2)]
      refine ⟨_, rfl, x, _, _, .int t, rfl, rfl, SqT.of hn, atI_nat (j := 1) rfl, _, rfl, x, _, _, .int v, rfl, rfl, SqT.of hn, atI_nat (j := 2) rfl, _, rfl, p, _, _, .int st.u, rfl, rfl, SqL.of hp, atI_nat (j := 2) rfl, _, rfl, (by show 4 ≤ sizeLine; decide), fun r nr => ?_⟩
      exact h1 _ es r g as _ (same_new nr) nr (.inl rfl) ⟨upd_same, hL.same (same_new nr)⟩
  | ent i t n =>
    obtain ⟨h0, r, hn, hr2⟩ := hn
    have eapp : app st (.ent i t n) = if i > (st.log.length : Nat) ∨ t > st.t ∨ (i > 0 ∧ t < last1 st.log i) then none else some ⟨st.t, st.v, st.u, st.log.take i.toNat ++ [(t, n)]⟩ := rfl
    refine ⟨_, rfl, x, _, _, .str "entry", rfl, rfl, SqT.of hn, atI_nat (j := 0) rfl, rfl, _, rfl, ifF (decide_eq_false fun q => absurd (V.str.inj q) (by decide +kernel)) ?_⟩
    refine ⟨_, rfl, x, _, _, .str "entry", rfl, rfl, SqT.of hn, atI_nat (j := 0) rfl, rfl, _, rfl, ifF (decide_eq_false fun q => absurd (V.str.inj q) (by decide +kernel)) ?_⟩
    refine ⟨_, rfl, x, _, _, .int i, rfl, rfl, SqT.of hn, atI_nat (j := 1) rfl, _, rfl, _, _, rfl, .inl ⟨_, SqL.of hL.at_, rfl⟩, _, _, rfl, rfl, _, rfl, ?_⟩
    rw [List.length_map, alen]
    refine iteD (fun c => ifT rfl (h2 (by rw [eapp, if_pos (.inl c)]))) (fun c => ?_)
    have c : ¬ i > (st.log.length : Nat) := c
    refine ⟨_, rfl, x, _, _, .int t, rfl, rfl, SqT.of hn, atI_nat (j := 2) rfl, _, rfl, _, _, rfl, rfl, _, rfl, iteD (fun c1 => ifT rfl (h2 (by rw [eapp, if_pos (.inr (.inl c1))]))) (fun c1 => ?_)⟩
    have c1 : ¬ t > st.t := c1
    apply via0 (¬ (i > 0 ∧ t < last1 st.log i))
    · intro fin
      refine ⟨_, rfl, x, _, _, .int i, rfl, rfl, SqT.of hn, atI_nat (j := 1) rfl, _, _, rfl, rfl, _, rfl, iteD (fun c2 => ?_) (fun c2 => ifF rfl (fin fun q => c2 q.1))⟩
      have c2 : i > 0 := c2
      have hj : i.toNat - 1 < as.length := by omega
      obtain ⟨y, hy⟩ : ∃ y, as[i.toNat - 1]? = some y := ⟨_, List.getElem?_eq_getElem hj⟩
      obtain ⟨e, he, r2, hy1, hy2⟩ := hL.each _ y hy
      have el : last1 st.log i = e.1 := by
        unfold last1
        rw [List.getD_eq_getElem?_getD, he]
        rfl
      refine ⟨_, rfl, x, _, _, .int t, rfl, rfl, SqT.of hn, atI_nat (j := 2) rfl, _, rfl, _, rfl, x, _, _, .int i, rfl, rfl, SqT.of hn, atI_nat (j := 1) rfl, _, _, rfl, rfl, g, _, _, .ref y, rfl, rfl, SqL.of hL.at_, at_of (j := i.toNat - 1) (by omega) (by rw [List.getElem?_map, hy]; rfl), y, _, _, .int e.1, rfl, rfl, SqT.of hy1, atI_nat (j := 0) rfl, _, _, rfl, rfl, _, rfl, iteD (fun c3 => h2 ?_) (fun c3 => fin fun q => ?_)⟩
      · have c3 : t < e.1 := c3
        rw [eapp, if_pos (.inr (.inr ⟨c2, by rw [el]; exact c3⟩))]
      · have c3 : ¬ t < e.1 := c3
        rw [el] at q
        exact c3 q.2
    · intro c2
      have es : app st (.ent i t n) = some ⟨st.t, st.v, st.u, st.log.take i.toNat ++ [(t, n)]⟩ := by rw [eapp, if_neg (fun q => q.elim c fun q => q.elim c1 c2)]
      refine ⟨_, rfl, _, rfl, _, rfl, p, _, _, .int st.u, rfl, rfl, SqL.of hp, atI_nat (j := 2) rfl, _, rfl, _, rfl, x, _, _, .int i, rfl, rfl, SqT.of hn, atI_nat (j := 1) rfl, _, rfl, g, _, rfl, SqL.of hL.at_, fun e1 n1 => ?_⟩
      have ec : cutV (as.map V.ref) none (some i) = (as.take i.toNat).map V.ref := by
        rw [show i = ((i.toNat : Nat) : Int) by omega, cut_to, List.map_take]
        rfl
      rw [ec]
      have s1 := same_new (o := .lst ((as.take i.toNat).map V.ref)) n1
      have he1 : (upd H e1 (.lst ((as.take i.toNat).map V.ref))) e1 = some (.lst ((as.take i.toNat).map V.ref)) := upd_same
      refine ⟨_, rfl, x, _, _, .int t, rfl, rfl, SqT.of (s1 _ _ hn), atI_nat (j := 2) rfl, _, rfl, x, _, _, .ref r, rfl, rfl, SqT.of (s1 _ _ hn), atI_nat (j := 3) rfl, (by show 2 ≤ sizeLine; decide), fun q nq => ?_⟩
      have s2 := s1.trans (same_new (o := .tup [.int t, .ref r]) nq)
      have hq : (upd (upd H e1 (.lst ((as.take i.toNat).map V.ref))) q (.tup [.int t, .ref r])) q = some (.tup [.int t, .ref r]) := upd_same
      have he2 := same_new (o := .tup [.int t, .ref r]) nq _ _ he1
      refine ⟨(by show 1 ≤ sizeLine; decide), fun lq nlq => ?_⟩
      have s3 := s2.trans (same_new (o := .lst [.ref q]) nlq)
      have sl := same_new (o := .lst [.ref q]) nlq
      refine ⟨e1, lq, _, _, rfl, rfl, sl _ _ he2, upd_same, szle (by rw [List.length_map, List.length_take]; show _ + 1 ≤ _; omega), fun m nm => ⟨(by show 4 ≤ sizeLine; decide), fun z nz => ?_⟩⟩
      have sm := same_new (o := .lst ((as.take i.toNat).map V.ref ++ [V.ref q])) nm
      have sz := same_new (o := .lst [.int st.t, .int st.v, .int st.u, .ref m]) nz
      refine h1 _ es z m (as.take i.toNat ++ [q]) _ ((s3.trans sm).trans sz) ((s3.trans sm).free nz) (.inr (s3.free nm)) ⟨upd_same, sz _ _ (by rw [upd_same, List.map_append]; rfl), ?_, ?_⟩
      · rw [List.length_append, List.length_append, List.length_take, List.length_take, alen]
        rfl
      · intro j y hj
        have sA := (s3.trans sm).trans sz
        by_cases k : j < (as.take i.toNat).length
        · rw [List.getElem?_append_left k] at hj
          have k2 : j < i.toNat := by
            rw [List.length_take] at k
            omega
          rw [List.getElem?_take, if_pos k2] at hj
          obtain ⟨e, he, hy⟩ := hL.each j y hj
          refine ⟨e, ?_, hy.tp (Same.tp sA)⟩
          rw [List.getElem?_append_left (by rw [List.length_take] at k ⊢; omega), List.getElem?_take, if_pos k2]
          exact he
        · have k3 : (as.take i.toNat).length = (st.log.take i.toNat).length := by rw [List.length_take, List.length_take, alen]
          rw [List.getElem?_append_right (by omega)] at hj
          have hj2 : j - (as.take i.toNat).length = 0 := by
            have h3 : j - (as.take i.toNat).length < 1 := (List.getElem?_eq_some_iff.mp hj).1
            omega
          rw [hj2] at hj
          have : q = y := Option.some.inj hj
          subst this
          exact ⟨(t, n), by rw [List.getElem?_append_right (by omega), ← k3, hj2]; rfl, r, sz _ _ (sm _ _ (sl _ _ hq)), sA _ _ hr2⟩
def sp__law_change (T : Env K mg) : Sp := fun vs H Q E => ∃ (p g : Addr) (as : List Addr) (s : S) (c : Int), vs = [.int c, .ref p] ∧ LsAt H p g as s ∧ 0 ≤ c ∧ ∀ x n H', Same H H' → NoteAt H' x n → Q (.ref x) H'
theorem ok__law_change (T : Env K mg) : FnOk P w K mg base (L2.CX P w) 1 T.a__law_change T.d__law_change ["cell", "state"] (sp__law_change T) := by
  refine T.F__law_change.okX sc__law_change (fun vs H Q E h => by obtain ⟨_, _, _, _, _, rfl, _⟩ := h; rfl) (fun cdv A outer s H vs Q E hr h => ?_)
  obtain ⟨p, g, as, st, c, rfl, hS, hc, h1⟩ := h
  have hp := hS.at_
  have hL := hS.lg
  refine ⟨_, (pss_cons (ps_set (i := 2) sc__law_change.nd rfl (Or.inl rfl) (pe_op op_mod (pe_callTy call_int1 (by rfl) T.z_int (by decide +kernel) (pa_cons (pv 0) pa_nil)) pe_int))
      (pss_cons (ps_set (i := 0) sc__law_change.nd rfl (Or.inl rfl) (pe_op op_fdiv (pv 0) pe_int))
      (pss_cons (ps_if (pt_cmpR op_eq (pv 2) pe_int (nomark _)) (pss_one (ps_ret (pe_tup (pa_cons pe_str (pa_cons (pe_callB (call_max2 rfl) (by rfl) T.z_max (by decide +kernel) (pa_cons pe_int (pa_cons (pe_op op_sub (pe_op op_add (pe_ix ix_list (pv 1) pe_int (fun _ _ => rfl)) (pe_op op_mod (pe_callTy call_int1 (by rfl) T.z_int (by decide +kernel) (pa_cons (pv 0) pa_nil)) pe_int)) pe_int) pa_nil))) (pa_cons (pe_op op_sub (pe_op op_mod (pe_op op_fdiv (pv 0) pe_int) pe_int) pe_int) pa_nil)))))) pss_nil)
      (pss_cons (ps_if (pt_cmpR op_eq (pv 2) pe_int (nomark _)) (pss_one (ps_ret (pe_tup (pa_cons pe_str (pa_cons (pe_ix ix_list (pe_lst (pa_cons (pe_op op_mod (pe_op op_fdiv (pv 0) pe_int) pe_int) (pa_cons (pe_op op_add (pe_ix ix_list (pv 1) pe_int (fun _ _ => rfl)) (pe_op op_mod (pe_op op_fdiv (pv 0) pe_int) pe_int)) pa_nil))) (pe_op op_mod (pe_callTy call_int1 (by rfl) T.z_int (by decide +kernel) (pa_cons (pv 0) pa_nil)) pe_int) (fun _ _ => rfl)) pa_nil))))) pss_nil)
      (pss_cons (ps_set (i := 3) sc__law_change.nd rfl (Or.inl rfl) (pe_ix ix_list (pe_lst (pa_cons (pe_callB call_len (by rfl) T.z_len (by decide +kernel) (pa_cons (pe_ix ix_list (pv 1) pe_int (fun _ _ => rfl)) pa_nil)) (pa_cons (pe_callB (call_max2 rfl) (by rfl) T.z_max (by decide +kernel) (pa_cons pe_int (pa_cons (pe_op op_sub (pe_callB call_len (by rfl) T.z_len (by decide +kernel) (pa_cons (pe_ix ix_list (pv 1) pe_int (fun _ _ => rfl)) pa_nil)) (pe_op op_mod (pe_callTy call_int1 (by rfl) T.z_int (by decide +kernel) (pa_cons (pv 0) pa_nil)) pe_int)) pa_nil))) (pa_cons (pe_op op_add (pe_callB call_len (by rfl) T.z_len (by decide +kernel) (pa_cons (pe_ix ix_list (pv 1) pe_int (fun _ _ => rfl)) pa_nil)) (pe_op op_mod (pe_callTy call_int1 (by rfl) T.z_int (by decide +kernel) (pa_cons (pv 0) pa_nil)) pe_int)) pa_nil)))) (pe_op op_mod (pe_op op_fdiv (pv 0) pe_int) pe_int) (fun _ _ => rfl)))
      (pss_one (ps_ret (pe_tup (pa_cons pe_str (pa_cons (pv 3) (pa_cons (pe_callB (call_max2 rfl) (by rfl) T.z_max (by decide +kernel) (pa_cons pe_int (pa_cons (pe_op op_sub (pe_ix ix_list (pv 1) pe_int (fun _ _ => rfl)) (pe_ix ix_list (pe_lst (pa_cons pe_int (pa_cons pe_int (pa_cons pe_int (pa_cons (pe_un un_neg pe_int) pa_nil))))) (pe_op op_mod (pe_op op_fdiv (pv 0) pe_int) pe_int) (fun _ _ => rfl))) pa_nil))) (pa_cons (pe_tup (pa_cons pe_str (pa_cons (pe_op op_add pe_int (pe_op op_mod (pe_op op_fdiv (pv 0) pe_int) pe_int)) pa_nil))) pa_nil)))))))))))), ?_⟩
  refine ⟨_, rfl, .inl ⟨_, rfl, _, _, rfl, rfl, by show (0 : Int) < _; decide, ?_⟩⟩
  refine ⟨_, rfl, _, _, rfl, rfl, ⟨by decide, by decide⟩, ?_⟩
  refine ⟨_, rfl, rfl, _, rfl, iteD (fun k => ?_) (fun k => ?_)⟩
  · refine ⟨_, rfl, p, _, _, .int st.t, rfl, rfl, SqL.of hp, atI_nat (j := 0) rfl, _, rfl, .inl ⟨_, rfl, _, _, rfl, rfl, by show (0 : Int) < _; decide, _, _, rfl, rfl, _, _, rfl, rfl, ?_⟩⟩
    refine ⟨_, _, rfl, _, rfl, _, _, rfl, rfl, ⟨by decide, by decide⟩, _, _, rfl, rfl, by show (0 : Int) < _; decide, _, _, rfl, rfl, (by show 3 ≤ sizeLine; decide), fun x nx => ?_⟩
    exact h1 x (.bal _ _) _ (same_new nx) upd_same
  refine ⟨_, rfl, rfl, _, rfl, iteD (fun k => ?_) (fun k => ?_)⟩
  · refine ⟨_, rfl, _, _, rfl, rfl, ⟨by decide, by decide⟩, _, _, rfl, rfl, by show (0 : Int) < _; decide, _, rfl, p, _, _, .int st.u, rfl, rfl, SqL.of hp, atI_nat (j := 2) rfl, _, rfl, _, _, rfl, rfl, ⟨by decide, by decide⟩, _, _, rfl, rfl, by show (0 : Int) < _; decide, _, _, rfl, rfl, (by show 2 ≤ sizeLine; decide), fun q nq => ?_⟩
    obtain ⟨w, hidx⟩ : ∃ w : Int, atI [V.int (c / 4 / 5 % 50), V.int (st.u + c / 4 / 5 % 4)] (c / 4 % 2) = some (.int w) := by
      have c3 : c / 4 % 2 = 0 ∨ c / 4 % 2 = 1 := by omega
      rcases c3 with e | e
      · exact ⟨_, by rw [e]; exact atI_nat (j := 0) rfl⟩
      · exact ⟨_, by rw [e]; exact atI_nat (j := 1) rfl⟩
    refine ⟨_, rfl, .inl ⟨_, rfl, _, _, rfl, rfl, by show (0 : Int) < _; decide, q, _, _, .int w, rfl, rfl, SqL.of upd_same, hidx, (by show 2 ≤ sizeLine; decide), fun x nx => ?_⟩⟩
    exact h1 x (.pro w) _ ((same_new nq).trans (same_new nx)) upd_same
  · refine ⟨_, rfl, p, _, _, .ref g, rfl, rfl, SqL.of hp, atI_nat (j := 3) rfl, _, _, rfl, .inl ⟨_, SqL.of hL.at_, rfl⟩, _, rfl, p, _, _, .ref g, rfl, rfl, SqL.of hp, atI_nat (j := 3) rfl, _, _, rfl, .inl ⟨_, SqL.of hL.at_, rfl⟩, _, rfl, .inl ⟨_, rfl, _, _, rfl, rfl, by show (0 : Int) < _; decide, _, _, rfl, rfl, _, _, rfl, _, rfl, p, _, _, .ref g, rfl, rfl, SqL.of hp, atI_nat (j := 3) rfl, _, _, rfl, .inl ⟨_, SqL.of hL.at_, rfl⟩, _, rfl, .inl ⟨_, rfl, _, _, rfl, rfl, by show (0 : Int) < _; decide, _, _, rfl, rfl, (by show 3 ≤ sizeLine; decide), fun q nq => ?_⟩⟩⟩
    obtain ⟨w, hw, hidx⟩ : ∃ w : Int, 0 ≤ w ∧ atI [V.int ((as.map V.ref).length : Nat), V.int (if (((as.map V.ref).length : Nat) : Int) - c / 4 % 3 > 0 then (((as.map V.ref).length : Nat) : Int) - c / 4 % 3 else 0), V.int ((((as.map V.ref).length : Nat) : Int) + c / 4 % 2)] (c / 4 / 6 % 3) = some (.int w) := by
      have c3 : c / 4 / 6 % 3 = 0 ∨ c / 4 / 6 % 3 = 1 ∨ c / 4 / 6 % 3 = 2 := by omega
      rcases c3 with e | e | e
      · refine ⟨_, ?_, by rw [e]; exact atI_nat (j := 0) rfl⟩
        omega
      · refine ⟨_, ?_, by rw [e]; exact atI_nat (j := 1) rfl⟩
        split <;> omega
      · refine ⟨_, ?_, by rw [e]; exact atI_nat (j := 2) rfl⟩
        omega
    have s1 : Same H _ := same_new (o := .lst [V.int ((as.map V.ref).length : Nat), V.int (if (((as.map V.ref).length : Nat) : Int) - c / 4 % 3 > 0 then (((as.map V.ref).length : Nat) : Int) - c / 4 % 3 else 0), V.int ((((as.map V.ref).length : Nat) : Int) + c / 4 % 2)]) nq
    refine ⟨_, rfl, _, _, rfl, rfl, ⟨by decide, by decide⟩, _, _, rfl, rfl, by show (0 : Int) < _; decide, q, _, _, .int w, rfl, rfl, SqL.of upd_same, hidx, ?_⟩
    refine ⟨_, rfl, _, rfl, p, _, _, .int st.t, rfl, rfl, SqL.of (s1 _ _ hp), atI_nat (j := 0) rfl, _, rfl, (by show 4 ≤ sizeLine; decide), fun q2 nq2 => ?_⟩
    obtain ⟨w2, hidx2⟩ : ∃ w : Int, atI [V.int 0, V.int 0, V.int 1, V.int (-1)] (c / 4 / 18 % 4) = some (.int w) := by
      have c3 : c / 4 / 18 % 4 = 0 ∨ c / 4 / 18 % 4 = 1 ∨ c / 4 / 18 % 4 = 2 ∨ c / 4 / 18 % 4 = 3 := by omega
      rcases c3 with e | e | e | e
      · exact ⟨_, by rw [e]; exact atI_nat (j := 0) rfl⟩
      · exact ⟨_, by rw [e]; exact atI_nat (j := 1) rfl⟩
      · exact ⟨_, by rw [e]; exact atI_nat (j := 2) rfl⟩
      · exact ⟨_, by rw [e]; exact atI_nat (j := 3) rfl⟩
    refine ⟨_, rfl, _, _, rfl, rfl, ⟨by decide, by decide⟩, _, _, rfl, rfl, by show (0 : Int) < _; decide, q2, _, _, .int w2, rfl, rfl, SqL.of upd_same, hidx2, _, _, rfl, rfl, _, _, rfl, _, rfl, _, _, rfl, rfl, ⟨by decide, by decide⟩, _, _, rfl, rfl, by show (0 : Int) < _; decide, _, _, rfl, rfl, (by show 2 ≤ sizeLine; decide), fun f nf => ⟨(by show 4 ≤ sizeLine; decide), fun x nx => ?_⟩⟩
    exact h1 x (.ent w _ _) _ (((s1.trans (same_new nq2)).trans (same_new nf)).trans (same_new nx)) ⟨hw, f, upd_same, same_new nx _ _ upd_same⟩
/-! as data -/
def dEnt (e : Int × Int) : PyData := .tuple [.int e.1, .tuple [.str "floor", .int e.2]]
def dSt (s : S) : PyData := .list [.int s.t, .int s.v, .int s.u, .list (s.log.map dEnt)]
def dNote : Nt → PyData
  | .bal t v => .tuple [.str "ballot", .int t, .int v]
  | .pro p => .tuple [.str "promise", .int p]
  | .ent i t n => .tuple [.str "entry", .int i, .int t, .tuple [.str "floor", .int n]]
def dNotes (ns : List Nt) : PyData := .list (ns.map dNote)
theorem dp_ent {H : Hp} {x : Addr} {e : Int × Int} (h : EntAt H x e) : Dp K H (.ref x) (dEnt e) := by
  obtain ⟨r, h1, h2⟩ := h
  exact .tup (SqT.of h1) (.cons (.int _) (.cons (.tup (SqT.of h2) (.cons (.str _) (.cons (.int _) .nil))) .nil))
theorem dp_note {H : Hp} {x : Addr} {n : Nt} (h : NoteAt H x n) : Dp K H (.ref x) (dNote n) := by
  cases n with
  | bal t v => exact .tup (SqT.of h) (.cons (.str _) (.cons (.int _) (.cons (.int _) .nil)))
  | pro p => exact .tup (SqT.of h) (.cons (.str _) (.cons (.int _) .nil))
  | ent i t n =>
    obtain ⟨_, r, h1, h2⟩ := h
    exact .tup (SqT.of h1) (.cons (.str _) (.cons (.int _) (.cons (.int _) (.cons (.tup (SqT.of h2) (.cons (.str _) (.cons (.int _) .nil))) .nil))))
theorem dpAll_of {α : Type} {H : Hp} (d : α → PyData) : ∀ (as : List Addr) (bs : List α), as.length = bs.length → (∀ (j : Nat) (a : Addr), as[j]? = some a → ∃ b, bs[j]? = some b ∧ Dp K H (.ref a) (d b)) → DpAll K H (as.map V.ref) (bs.map d)
  | [], [], _, _ => .nil
  | [], _ :: _, h, _ => by simp at h
  | _ :: _, [], h, _ => by simp at h
  | a :: as, b :: bs, h, e => by
    obtain ⟨b', h1, h2⟩ := e 0 a rfl
    have : b = b' := Option.some.inj h1
    subst this
    exact .cons h2 (dpAll_of d as bs (by simpa using h) fun j c hj => e (j + 1) c hj)
theorem Lg.dp {H : Hp} {g : Addr} {as : List Addr} {log : List (Int × Int)} (h : Lg H g as log) : Dp K H (.ref g) (.list (log.map dEnt)) :=
  .lst (SqL.of h.at_) (dpAll_of dEnt as log h.len fun j x hj => by
    obtain ⟨e, h1, h2⟩ := h.each j x hj
    exact ⟨e, h1, dp_ent h2⟩)
theorem Ns.dp {H : Hp} {p : Addr} {as : List Addr} {ns : List Nt} (h : Ns H p as ns) : Dp K H (.ref p) (dNotes ns) :=
  .lst (SqL.of h.at_) (dpAll_of dNote as ns h.len fun j x hj => by
    obtain ⟨e, h1, h2⟩ := h.each j x hj
    exact ⟨e, h1, dp_note h2⟩)
theorem dp_st {H : Hp} {p g : Addr} {as : List Addr} {s : S} (h : H p = some (.lst [.int s.t, .int s.v, .int s.u, .ref g])) (hl : Lg H g as s.log) : Dp K H (.ref p) (dSt s) :=
  .lst (SqL.of h) (.cons (.int _) (.cons (.int _) (.cons (.int _) (.cons hl.dp .nil))))
theorem good_all {α : Type} (d : α → PyData) (hc : ∀ a, PyData.canLay0 (d a) = true) (hd : ∀ a, PyData.depth (d a) ≤ 2) (he : ∀ a, PyData.eqv (d a) (d a) = true) : ∀ xs : List α, PyData.canLayAll0 (xs.map d) = true ∧ PyData.depthAll (xs.map d) ≤ 2 ∧ PyData.eqvAll (xs.map d) (xs.map d) = true
  | [] => ⟨rfl, by show PyData.depthAll [] ≤ 2; rw [PyData.depthAll]; omega, rfl⟩
  | x :: r => by
    obtain ⟨h1, h2, h3⟩ := good_all d hc hd he r
    refine ⟨?_, ?_, ?_⟩
    · show (PyData.canLay0 (d x) && PyData.canLayAll0 (r.map d)) = true
      rw [h1, hc]
      rfl
    · show PyData.depthAll (d x :: r.map d) ≤ 2
      have := hd x
      rw [PyData.depthAll]
      omega
    · show (PyData.eqv (d x) (d x) && PyData.eqvAll (r.map d) (r.map d)) = true
      rw [h3, he]
      rfl
theorem good_ent (xs : List (Int × Int)) : PyData.canLayAll0 (xs.map dEnt) = true ∧ PyData.depthAll (xs.map dEnt) ≤ 2 ∧ PyData.eqvAll (xs.map dEnt) (xs.map dEnt) = true := good_all dEnt (fun a => by simp [dEnt, PyData.canLay0, PyData.canLayAll0]; decide +kernel) (fun a => by simp [dEnt, PyData.depth, PyData.depthAll]) (fun a => by simp [dEnt, PyData.eqv, PyData.eqvAll]) xs
theorem good_note (xs : List Nt) : PyData.canLayAll0 (xs.map dNote) = true ∧ PyData.depthAll (xs.map dNote) ≤ 2 ∧ PyData.eqvAll (xs.map dNote) (xs.map dNote) = true := good_all dNote (fun a => by cases a <;> simp [dNote, PyData.canLay0, PyData.canLayAll0] <;> decide +kernel) (fun a => by cases a <;> simp [dNote, PyData.depth, PyData.depthAll]) (fun a => by cases a <;> simp [dNote, PyData.eqv, PyData.eqvAll]) xs
theorem shaped_notes (ns : List Nt) : SeqAt.shaped (dNotes ns) = true := by
  obtain ⟨h1, h2, _⟩ := good_note ns
  unfold SeqAt.shaped dNotes
  have : PyData.depth (.list (ns.map dNote)) ≤ 64 := by
    unfold PyData.depth
    omega
  rw [show PyData.canLay0 (.list (ns.map dNote)) = true from by unfold PyData.canLay0; exact h1]
  simp [this]
theorem eqv_notes (ns : List Nt) : PyData.eqv (dNotes ns) (dNotes ns) = true := (good_note ns).2.2
theorem shaped_st (s : S) : SeqAt.shaped (dSt s) = true := by
  obtain ⟨h1, h2, _⟩ := good_ent s.log
  unfold SeqAt.shaped dSt
  have : PyData.depth (.list [.int s.t, .int s.v, .int s.u, .list (s.log.map dEnt)]) ≤ 64 := by
    simp only [PyData.depth, PyData.depthAll]
    omega
  rw [show PyData.canLay0 (.list [.int s.t, .int s.v, .int s.u, .list (s.log.map dEnt)]) = true from by simp [PyData.canLay0, PyData.canLayAll0, h1]]
  simp [this]
theorem eqv_st (s : S) : PyData.eqv (dSt s) (dSt s) = true := by
  have h := (good_ent s.log).2.2
  show ((s.t == s.t) && ((s.v == s.v) && ((s.u == s.u) && (PyData.eqvAll (s.log.map dEnt) (s.log.map dEnt) && true)))) = true
  rw [h]
  simp

--PART /work/steering/wip/parts/k13b.lean
theorem tp_put {H : Hp} {p : Addr} {o : HO} {xs : List V} (h : H p = some (.lst xs)) : Tp H (upd H p o) := fun x ys e => by
  rw [upd_ne]
  · exact e
  · rintro rfl
    rw [h] at e
    cases e
theorem Ns.snoc {H H' : Hp} {p r x : Addr} {as : List Addr} {ns : List Nt} {n : Nt} (h : Ns H p as ns) (hx : NoteAt H x n) (t : Tp H H') (hr : H' r = some (.lst (as.map V.ref ++ [.ref x]))) : Ns H' r (as ++ [x]) (ns ++ [n]) := by
  refine ⟨by rw [hr, List.map_append]; rfl, by rw [List.length_append, List.length_append, h.len]; rfl, fun j y hj => ?_⟩
  by_cases k : j < as.length
  · rw [List.getElem?_append_left k] at hj
    obtain ⟨m, h1, h2⟩ := h.each j y hj
    exact ⟨m, by rw [List.getElem?_append_left (by rw [← h.len]; exact k)]; exact h1, h2.tp t⟩
  · rw [List.getElem?_append_right (by omega)] at hj
    have hj2 : j - as.length = 0 := by
      have h3 : j - as.length < 1 := (List.getElem?_eq_some_iff.mp hj).1
      omega
    rw [hj2] at hj
    have : x = y := Option.some.inj hj
    subst this
    exact ⟨n, by rw [List.getElem?_append_right (by rw [← h.len]; omega), ← h.len, hj2]; rfl, hx.tp t⟩
theorem LsAt.put {H : Hp} {p g q : Addr} {as : List Addr} {s : S} {o : HO} {xs : List V} (h : LsAt H p g as s) (h1 : p ≠ q) (h2 : g ≠ q) (hq : H q = some (.lst xs)) : LsAt (upd H q o) p g as s :=
  ⟨by rw [upd_ne h1]; exact h.at_, by rw [upd_ne h2]; exact h.lg.at_, h.lg.len, fun j x hj => by
    obtain ⟨e, h3, h4⟩ := h.lg.each j x hj
    exact ⟨e, h3, h4.tp (tp_put hq)⟩⟩
def spLaw (K : PySem.W.Frag) : Sp := fun vs H Q _ => ∃ (a : Addr) (ns : List Int), vs = [.ref a] ∧ SqL K H a (ns.map V.int) ∧ ns.length ≤ 63 ∧ ∀ H', Q (.bl true) H'
def sp_law (T : Env K mg) : Sp := spLaw K
theorem ok_law (T : Env K mg) : FnOk P w K mg base CX0 10 T.a_law T.d_law ["script"] (sp_law T) := by
  refine T.F_law.ok sc_law (fun vs H Q E h => by obtain ⟨_, _, rfl, _⟩ := h; rfl) (fun cdv A outer s H vs Q E hr h => ?_)
  obtain ⟨a, ns, rfl, hS, hlen, h1⟩ := h
  have hu64 := hu64_of hr
  have G_replay := ok_replay (P := P) (w := w) (base := base) T
  have G__law_change := ok__law_change (P := P) (w := w) (base := base) T
  have G__law_apply := ok__law_apply (P := P) (w := w) (base := base) T
  have G__law_cell := ok__law_cell (P := P) (w := w) (base := base) T
  have G__law_is_int := ok__law_is_int (P := P) (w := w) (base := base) T
  have G__law_refused := ok__law_refused (P := P) (w := w) (base := base) T
  refine ⟨_, (pss_cons (ps_set (i := 1) sc_law.nd rfl (Or.inl rfl) (pe_lst (pa_cons pe_int (pa_cons (pe_un un_neg pe_int) (pa_cons pe_int (pa_cons (pe_lst pa_nil) pa_nil))))))
      (pss_cons (ps_set (i := 2) sc_law.nd rfl (Or.inl rfl) (pe_lst pa_nil))
      (pss_cons (ps_for PassesOwn.never rfl (pi_range1 rfl T.z_range (pa_cons (pe_callB (call_min2 rfl) (by rfl) T.z_min (by decide +kernel) (pa_cons pe_int (pa_cons (pe_callB call_len (by rfl) T.z_len (by decide +kernel) (pa_cons (pv 0) pa_nil)) pa_nil))) pa_nil)) (pg_name (i := 3) sc_law.nd rfl (Or.inl rfl)) (pss_cons (ps_set (i := 4) sc_law.nd rfl (Or.inl rfl) (pe_call G__law_change (hr.mono (by decide)) rfl T.g__law_change T.F__law_change.kp T.b__law_change .nil passL (pa_cons (pe_call G__law_cell (hr.mono (by decide)) rfl T.g__law_cell T.F__law_cell.kp T.b__law_cell .nil passL (pa_cons (pv 0) (pa_cons (pv 3) pa_nil))) (pa_cons (pv 1) pa_nil))))
      (pss_cons (ps_set (i := 5) sc_law.nd rfl (Or.inl rfl) (pe_call G__law_apply (hr.mono (by decide)) rfl T.g__law_apply T.F__law_apply.kp T.b__law_apply .nil passL (pa_cons (pv 1) (pa_cons (pv 4) pa_nil))))
      (pss_one (ps_if (pt_cmpR op_isN (pv 5) pe_non (nomark _)) (pss_one (ps_if (pt_not (pt_val (pe_call G__law_refused (hr.mono (by decide)) rfl T.g__law_refused T.F__law_refused.kp T.b__law_refused .nil passL (pa_cons (pe_op op_cat (pv 2) (pe_lst (pa_cons (pv 4) pa_nil))) pa_nil)))) (pss_one (ps_ret pe_bl)) pss_nil)) (pss_cons (ps_set (i := 1) sc_law.nd rfl (Or.inl rfl) (pv 5))
      (pss_one (ps_expr (pe_bm PySem.F.plainAttrs_list PySem.F.slot_list_append PySem.F.type_list_append mt_append (pv 2) (pa_cons (pv 4) pa_nil))))))))))
      (pss_cons (ps_set (i := 6) sc_law.nd rfl (Or.inl rfl) (pe_callTy call_list_of (by rfl) T.z_list (by decide +kernel) (pa_cons (pv 2) pa_nil)))
      (pss_cons (ps_set (i := 7) sc_law.nd rfl (Or.inl rfl) (pe_call G_replay (hr.mono (by decide)) rfl T.g_replay T.F_replay.kp T.b_replay .nil passL (pa_cons (pv 6) pa_nil)))
      (pss_cons (ps_if (PW.pt (pw_or (pt_not (pt_val (pe_callB call_isi (by rfl) T.z_isinstance (by decide +kernel) (pa_cons (pv 7) (pa_cons (pe_bltn (v := .ty "tuple") (by rfl) T.z_tuple (by decide +kernel) rfl) pa_nil))))) (pw_or (pt_cmpR op_ne (pe_callB call_len (by rfl) T.z_len (by decide +kernel) (pa_cons (pv 7) pa_nil)) pe_int (nomark _)) (pw_or (pt_cmpR (op_neD hu64) (pv 6) (pv 2) (nomark _)) (pw_or1 (pt_not (pt_val (pe_callB call_isi (by rfl) T.z_isinstance (by decide +kernel) (pa_cons (pe_ix ix_tup (pv 7) pe_int (fun _ _ => rfl)) (pa_cons (pe_bltn (v := .ty "list") (by rfl) T.z_list (by decide +kernel) rfl) pa_nil)))))))))) (pss_one (ps_ret pe_bl)) pss_nil)
      (pss_cons (ps_if (PW.pt (pw_or (pt_not (pt_val (pe_call G__law_is_int (hr.mono (by decide)) rfl T.g__law_is_int T.F__law_is_int.kp T.b__law_is_int .nil passL (pa_cons (pe_ix ix_tup (pv 7) pe_int (fun _ _ => rfl)) pa_nil)))) (pw_or (pt_not (pt_val (pe_call G__law_is_int (hr.mono (by decide)) rfl T.g__law_is_int T.F__law_is_int.kp T.b__law_is_int .nil passL (pa_cons (pe_ix ix_tup (pv 7) pe_int (fun _ _ => rfl)) pa_nil)))) (pw_or1 (pt_not (pt_val (pe_call G__law_is_int (hr.mono (by decide)) rfl T.g__law_is_int T.F__law_is_int.kp T.b__law_is_int .nil passL (pa_cons (pe_ix ix_tup (pv 7) pe_int (fun _ _ => rfl)) pa_nil)))))))) (pss_one (ps_ret pe_bl)) pss_nil)
      (pss_one (ps_ret (pe_cmpR (op_eqD hu64) (pe_callTy call_list_of (by rfl) T.z_list (by decide +kernel) (pa_cons (pv 7) pa_nil)) (pv 1) (nomark _))))))))))), ?_⟩
  refine ⟨_, rfl, Nat.zero_le _, fun g ng => ⟨(by show 4 ≤ sizeLine; decide), fun p np => ?_⟩⟩
  have s1 := (same_new (o := .lst []) ng).trans (same_new (o := .lst [.int 0, .int (-1), .int 0, .ref g]) np)
  have L0 : LsAt (upd (upd H g (.lst [])) p (.lst [.int 0, .int (-1), .int 0, .ref g])) p g [] s0 := ⟨upd_same, same_new np _ _ upd_same, rfl, fun j x hj => by simp at hj⟩
  show tSeq _ _ _ _ (upd (upd H g (.lst [])) p (.lst [.int 0, .int (-1), .int 0, .ref g]))
  generalize upd (upd H g (.lst [])) p (.lst [.int 0, .int (-1), .int 0, .ref g]) = H1 at s1 L0
  refine ⟨Nat.zero_le _, fun pn npn => ?_⟩
  have s2 := s1.trans (same_new (o := .lst []) npn)
  have L1 := L0.same (same_new (o := .lst []) npn)
  have N1 : Ns (upd H1 pn (.lst [])) pn [] [] := ⟨upd_same, rfl, fun j x hj => by simp at hj⟩
  have np0 : H pn = none := s1.free npn
  have nep : p ≠ pn := ne_of_none L0.at_ npn
  have neg : g ≠ pn := ne_of_none L0.lg.at_ npn
  show tSeq _ _ _ _ (upd H1 pn (.lst []))
  generalize upd H1 pn (.lst []) = H2 at s2 L1 N1
  refine ⟨_, rfl, _, _, rfl, .inl ⟨_, s2.seq hS, rfl⟩, _, _, rfl, ?_⟩
  rw [List.length_map]
  obtain ⟨n, en, hn⟩ : ∃ n : Nat, (if ((ns.length : Nat) : Int) < 30 then ((ns.length : Nat) : Int) else 30) = n ∧ n ≤ 30 := by
    split
    · exact ⟨_, rfl, by omega⟩
    · exact ⟨30, rfl, Nat.le_refl _⟩
  rw [en]
  refine ⟨_, rfl, by omega, by omega, ?_⟩
  rw [Int.toNat_natCast]
  refine for_range (n := n) (fun i σ H' => ∃ p g as s asN nsN v3 v4 v5 v6 v7, σ = [some (.ref a), some (.ref p), some (.ref pn), v3, v4, v5, v6, v7] ∧ Same H H' ∧ LsAt H' p g as s ∧ Ns H' pn asN nsN ∧ p ≠ pn ∧ g ≠ pn ∧ foldN s0 nsN = some s ∧ nsN.length ≤ i ∧ s.log.length ≤ i) ⟨p, g, [], s0, [], [], none, none, none, none, none, rfl, s2, L1, N1, nep, neg, rfl, Nat.le_refl _, Nat.le_refl _⟩ ?_ ?_
  · rintro i σ HA hi ⟨p, g, as, st, asN, nsN, v3, v4, v5, v6, v7, rfl, sA, hL, hN, e1, e2, hf, hl1, hl2⟩
    refine ⟨_, rfl, _, rfl, a, ns, _, rfl, sA.seq hS, by omega, _, rfl, p, g, as, st, _, rfl, hL, cell_nn _ _, fun x nt HB sB hx => ?_⟩
    have hLB := hL.same sB
    have hNB := hN.same sB
    have alen := hN.len
    refine ⟨_, rfl, _, rfl, p, g, x, as, st, nt, rfl, hLB, hx, by omega, fun s' es p' g' as' HC sC np' ng' hL' => ?_, fun en => ?_⟩
    · refine ⟨_, rfl, rfl, _, rfl, ifF (decide_eq_false fun q => by cases q) ?_⟩
      have hNC := hNB.same sC
      refine ⟨_, rfl, ?_⟩
      refine ⟨_, rfl, .inl ⟨rfl, _, SqL.of hNC.at_⟩, _, rfl, pn, _, _, rfl, rfl, hNC.at_, szl (by rw [List.length_map]; omega), ?_⟩
      have ep : p' ≠ pn := (ne_of_none hNB.at_ np').symm
      have eg : g' ≠ pn := by
        rcases ng' with q | q
        · rw [q]; exact e2
        · exact (ne_of_none hNB.at_ q).symm
      have := app_len es
      refine ⟨p', g', as', s', asN ++ [x], nsN ++ [nt], _, _, _, _, _, rfl, same_mut ((sA.trans sB).trans sC) np0, hL'.put ep eg hNC.at_, hNC.snoc (hx.tp (Same.tp sC)) (tp_put hNC.at_) upd_same, ep, eg, ?_, by rw [List.length_append]; show _ + 1 ≤ _; omega, by omega⟩
      rw [foldN_snoc, hf]
      exact es
    · refine ⟨_, rfl, rfl, _, rfl, ifT (decide_eq_true rfl) ?_⟩
      refine ⟨_, rfl, _, rfl, (by show 1 ≤ sizeLine; decide), fun q nq => ⟨pn, q, _, _, rfl, rfl, same_new nq _ _ hNB.at_, upd_same, szle (by rw [List.length_map]; show _ + 1 ≤ _; omega), fun r nr => ?_⟩⟩
      have sq := (same_new (o := .lst [.ref x]) nq).trans (same_new (o := .lst (asN.map V.ref ++ [.ref x])) nr)
      refine ⟨r, asN ++ [x], nsN ++ [nt], rfl, hNB.snoc hx (Same.tp sq) upd_same, by rw [List.length_append]; show _ + 1 ≤ _; omega, by rw [foldN_snoc, hf]; exact en, fun HC sC => ⟨_, rfl, ifF rfl ?_⟩⟩
      have sAll := (sB.trans sq).trans sC
      exact ⟨p, g, as, st, asN, nsN, _, _, _, _, _, rfl, sA.trans sAll, hL.same sAll, hN.same sAll, e1, e2, hf, by omega, by omega⟩
  rintro σ HA ⟨p, g, as, st, asN, nsN, v3, v4, v5, v6, v7, rfl, sA, hL, hN, e1, e2, hf, hl1, hl2⟩
  refine ⟨_, rfl, pn, _, rfl, .inl (SqL.of hN.at_), fun q nq => ?_⟩
  have sq := same_new (o := .lst (asN.map V.ref)) nq
  have hNq : Ns (upd HA q (.lst (asN.map V.ref))) q asN nsN := ⟨upd_same, hN.len, (hN.same sq).each⟩
  refine ⟨_, rfl, q, asN, nsN, rfl, hNq, by omega, fun s' es x g2 las HB sB hx hLg => ?_, fun en => (by rw [hf] at en; cases en)⟩
  rw [hf] at es
  cases es
  have sC := sq.trans sB
  refine ⟨_, rfl, _, _, _, _, _, rfl, .ty _, .base (.tup hx), kit_ty (b := "tuple") (r := true) (by decide +kernel), _, rfl, ifF rfl ?_⟩
  refine ⟨_, rfl, _, _, rfl, .inr ⟨_, SqT.of hx, rfl⟩, rfl, _, rfl, ifF rfl ?_⟩
  refine ⟨_, rfl, _, rfl, _, _, (hNq.same sB).dp, (hN.same sC).dp, shaped_notes _, shaped_notes _, _, rfl, ifF (by rw [eqv_notes]; rfl) ?_⟩
  refine ⟨_, rfl, x, _, _, .ref g2, rfl, rfl, SqT.of hx, atI_nat (j := 3) rfl, _, _, _, _, _, rfl, .ty _, .base (.lst hLg.at_), kit_ty (b := "list") (r := true) (by decide +kernel), _, rfl, ifF rfl ?_⟩
  refine ⟨_, rfl, x, _, _, .int st.t, rfl, rfl, SqT.of hx, atI_nat (j := 0) rfl, st.t, rfl, _, rfl, ifF rfl ?_⟩
  refine ⟨_, rfl, x, _, _, .int st.v, rfl, rfl, SqT.of hx, atI_nat (j := 1) rfl, st.v, rfl, _, rfl, ifF rfl ?_⟩
  refine ⟨_, rfl, x, _, _, .int st.u, rfl, rfl, SqT.of hx, atI_nat (j := 2) rfl, st.u, rfl, _, rfl, ifF rfl ?_⟩
  refine ⟨_, rfl, x, _, rfl, .inr (SqT.of hx), fun z nz => ?_⟩
  have sz := same_new (o := .lst [.int st.t, .int st.v, .int st.u, .ref g2]) nz
  refine ⟨_, rfl, _, _, dp_st upd_same (hLg.same sz), dp_st ((sC.trans sz) _ _ hL.at_) (hL.lg.same (sC.trans sz)), shaped_st _, shaped_st _, ?_⟩
  rw [eqv_st]
  exact h1 _

end
theorem all_mk {l : PySem.W.OpenLaw} {w : World} {K : PySem.W.Frag} {h : Heap} {mg : Str → Option Value} {fa C_MeridianError C_Refused C_DurableState f_replay f_state_after f_DurableState_init f_DurableState_take f_DurableState_take_ballot f_DurableState_take_promise f_DurableState_take_entry f__law_cell f__law_is_int f__law_apply f__law_change f__law_refused f_law : Addr} (X : K.In h) (G : h.Ns mainGlobals mg) (hfa : mg "law" = some (.ref fa))
    {od_replay an_replay : Option Addr} {sl_replay : Array (Option Value)} {oc_replay kV_replay dc_replay pm_replay cd_replay ct_replay : Value}
    {od_state_after an_state_after : Option Addr} {sl_state_after : Array (Option Value)} {oc_state_after kV_state_after dc_state_after pm_state_after cd_state_after ct_state_after : Value}
    {od_DurableState_init an_DurableState_init : Option Addr} {sl_DurableState_init : Array (Option Value)} {oc_DurableState_init kV_DurableState_init dc_DurableState_init pm_DurableState_init cd_DurableState_init ct_DurableState_init : Value}
    {od_DurableState_take an_DurableState_take : Option Addr} {sl_DurableState_take : Array (Option Value)} {oc_DurableState_take kV_DurableState_take dc_DurableState_take pm_DurableState_take cd_DurableState_take ct_DurableState_take : Value}
    {od_DurableState_take_ballot an_DurableState_take_ballot : Option Addr} {sl_DurableState_take_ballot : Array (Option Value)} {oc_DurableState_take_ballot kV_DurableState_take_ballot dc_DurableState_take_ballot pm_DurableState_take_ballot cd_DurableState_take_ballot ct_DurableState_take_ballot : Value}
    {od_DurableState_take_promise an_DurableState_take_promise : Option Addr} {sl_DurableState_take_promise : Array (Option Value)} {oc_DurableState_take_promise kV_DurableState_take_promise dc_DurableState_take_promise pm_DurableState_take_promise cd_DurableState_take_promise ct_DurableState_take_promise : Value}
    {od_DurableState_take_entry an_DurableState_take_entry : Option Addr} {sl_DurableState_take_entry : Array (Option Value)} {oc_DurableState_take_entry kV_DurableState_take_entry dc_DurableState_take_entry pm_DurableState_take_entry cd_DurableState_take_entry ct_DurableState_take_entry : Value}
    {od__law_cell an__law_cell : Option Addr} {sl__law_cell : Array (Option Value)} {oc__law_cell kV__law_cell dc__law_cell pm__law_cell cd__law_cell ct__law_cell : Value}
    {od__law_is_int an__law_is_int : Option Addr} {sl__law_is_int : Array (Option Value)} {oc__law_is_int kV__law_is_int dc__law_is_int pm__law_is_int cd__law_is_int ct__law_is_int : Value}
    {od__law_apply an__law_apply : Option Addr} {sl__law_apply : Array (Option Value)} {oc__law_apply kV__law_apply dc__law_apply pm__law_apply cd__law_apply ct__law_apply : Value}
    {od__law_change an__law_change : Option Addr} {sl__law_change : Array (Option Value)} {oc__law_change kV__law_change dc__law_change pm__law_change cd__law_change ct__law_change : Value}
    {od__law_refused an__law_refused : Option Addr} {sl__law_refused : Array (Option Value)} {oc__law_refused kV__law_refused dc__law_refused pm__law_refused cd__law_refused ct__law_refused : Value}
    {od_law an_law : Option Addr} {sl_law : Array (Option Value)} {oc_law kV_law dc_law pm_law cd_law ct_law : Value}
    {tk_NO_VOTE : Tok}
    (mg_MeridianError : PySem.W.nsIn K mainGlobals "MeridianError" = some (some (.ref C_MeridianError)))
    (x_MeridianError : PySem.W.excIn K C_MeridianError [.type "ValueError", .type "Exception", .type "BaseException", .type "object"] "ValueError.__new__" = true)
    (kc_MeridianError : PySem.W.keepIn K (.ref C_MeridianError) = true)
    (bp_MeridianError : PySem.W.subIn K (.ref C_MeridianError) (.type "BaseException") = some true)
    (tp_MeridianError : PySem.W.typeIn K (.ref C_MeridianError) = some (.type "type"))
    (ip_MeridianError : PySem.W.isClsIn K C_MeridianError = true)
    (ga_MeridianError : PySem.W.findIn K (.ref C_MeridianError) "__getattribute__" = some (some (.builtin "BaseException.__getattribute__")))
    (gt_MeridianError : PySem.W.findIn K (.ref C_MeridianError) "__getattr__" = some none)
    (hd_MeridianError : PySem.W.hasDictIn K C_MeridianError = true)
    (ca_MeridianError : PySem.W.findIn K (.ref C_MeridianError) "__class__" = some (some (.builtin "object.__class__")))
    (mo_MeridianError : PySem.W.mroIn K C_MeridianError (.type "object") = some true)
    (ve_MeridianError : PySem.W.subIn K (.ref C_MeridianError) (.type "ValueError") = some true)
    (u_MeridianError_MeridianError : PySem.W.subIn K (.ref C_MeridianError) (.ref C_MeridianError) = some true)
    (u_MeridianError_Refused : PySem.W.subIn K (.ref C_MeridianError) (.ref C_Refused) = some false)
    (mg_Refused : PySem.W.nsIn K mainGlobals "Refused" = some (some (.ref C_Refused)))
    (x_Refused : PySem.W.excIn K C_Refused [.type "ValueError", .type "Exception", .type "BaseException", .type "object"] "ValueError.__new__" = true)
    (kc_Refused : PySem.W.keepIn K (.ref C_Refused) = true)
    (bp_Refused : PySem.W.subIn K (.ref C_Refused) (.type "BaseException") = some true)
    (tp_Refused : PySem.W.typeIn K (.ref C_Refused) = some (.type "type"))
    (ip_Refused : PySem.W.isClsIn K C_Refused = true)
    (ga_Refused : PySem.W.findIn K (.ref C_Refused) "__getattribute__" = some (some (.builtin "BaseException.__getattribute__")))
    (gt_Refused : PySem.W.findIn K (.ref C_Refused) "__getattr__" = some none)
    (hd_Refused : PySem.W.hasDictIn K C_Refused = true)
    (ca_Refused : PySem.W.findIn K (.ref C_Refused) "__class__" = some (some (.builtin "object.__class__")))
    (mo_Refused : PySem.W.mroIn K C_Refused (.type "object") = some true)
    (ve_Refused : PySem.W.subIn K (.ref C_Refused) (.type "ValueError") = some true)
    (u_Refused_MeridianError : PySem.W.subIn K (.ref C_Refused) (.ref C_MeridianError) = some true)
    (u_Refused_Refused : PySem.W.subIn K (.ref C_Refused) (.ref C_Refused) = some true)
    (cn : PySem.W.specialIn K (.builtin "object.__class__") "__get__" = some (some (.builtin "getset_descriptor.__get__")))
    (ct : PySem.W.takesIn K (.builtin "object.__class__") = some true)
    (mg_DurableState : PySem.W.nsIn K mainGlobals "DurableState" = some (some (.ref C_DurableState)))
    (pg_DurableState : PySem.W.plainGet K C_DurableState Str.empty = true)
    (hd_DurableState : PySem.W.hasDictIn K C_DurableState = true)
    (po_DurableState : PySem.W.plainOver K C_DurableState = true)
    (sa_DurableState : PySem.W.findIn K (.ref C_DurableState) "__setattr__" = some (some (.builtin "object.__setattr__")))
    (mk_DurableState : PySem.W.makesIn K C_DurableState = true)
    (kc_DurableState : PySem.W.keepIn K (.ref C_DurableState) = true)
    (ca_DurableState : PySem.W.findIn K (.ref C_DurableState) "__class__" = some (some (.builtin "object.__class__")))
    (mo_DurableState : PySem.W.mroIn K C_DurableState (.type "object") = some true)
    (na_DurableState_ballot : PySem.W.findIn K (.ref C_DurableState) "ballot" = some none)
    (na_DurableState_until : PySem.W.findIn K (.ref C_DurableState) "until" = some none)
    (na_DurableState_log : PySem.W.findIn K (.ref C_DurableState) "log" = some none)
    (a_replay : PySem.W.nsIn K mainGlobals "replay" = some (some (.ref f_replay)))
    (l_replay : K.lookup f_replay = some ⟨oc_replay, od_replay, .func (PySem.W.fnOf "replay" "replay" (defArgs s_replay) (defBody s_replay) (defScope s_replay) .none kV_replay dc_replay pm_replay an_replay cd_replay ct_replay), sl_replay⟩)
    (c_replay : PySem.W.codeIn K cd_replay "replay" = true)
    (k_replay : PySem.W.keepIn K (.ref f_replay) = true)
    (a_state_after : PySem.W.nsIn K mainGlobals "state_after" = some (some (.ref f_state_after)))
    (l_state_after : K.lookup f_state_after = some ⟨oc_state_after, od_state_after, .func (PySem.W.fnOf "state_after" "state_after" (defArgs s_state_after) (defBody s_state_after) (defScope s_state_after) .none kV_state_after dc_state_after pm_state_after an_state_after cd_state_after ct_state_after), sl_state_after⟩)
    (c_state_after : PySem.W.codeIn K cd_state_after "state_after" = true)
    (k_state_after : PySem.W.keepIn K (.ref f_state_after) = true)
    (a_DurableState_init : PySem.W.findIn K (.ref C_DurableState) "__init__" = some (some (.ref f_DurableState_init)))
    (i_DurableState_init : PySem.W.isFn K (.ref f_DurableState_init) = true)
    (l_DurableState_init : K.lookup f_DurableState_init = some ⟨oc_DurableState_init, od_DurableState_init, .func (PySem.W.fnOf "__init__" "DurableState.__init__" (defArgs s_DurableState_init) (defBody s_DurableState_init) (defScope s_DurableState_init) .none kV_DurableState_init dc_DurableState_init pm_DurableState_init an_DurableState_init cd_DurableState_init ct_DurableState_init), sl_DurableState_init⟩)
    (c_DurableState_init : PySem.W.codeIn K cd_DurableState_init "DurableState.__init__" = true)
    (k_DurableState_init : PySem.W.keepIn K (.ref f_DurableState_init) = true)
    (a_DurableState_take : PySem.W.findIn K (.ref C_DurableState) "take" = some (some (.ref f_DurableState_take)))
    (i_DurableState_take : PySem.W.isFn K (.ref f_DurableState_take) = true)
    (l_DurableState_take : K.lookup f_DurableState_take = some ⟨oc_DurableState_take, od_DurableState_take, .func (PySem.W.fnOf "take" "DurableState.take" (defArgs s_DurableState_take) (defBody s_DurableState_take) (defScope s_DurableState_take) .none kV_DurableState_take dc_DurableState_take pm_DurableState_take an_DurableState_take cd_DurableState_take ct_DurableState_take), sl_DurableState_take⟩)
    (c_DurableState_take : PySem.W.codeIn K cd_DurableState_take "DurableState.take" = true)
    (k_DurableState_take : PySem.W.keepIn K (.ref f_DurableState_take) = true)
    (a_DurableState_take_ballot : PySem.W.findIn K (.ref C_DurableState) "take_ballot" = some (some (.ref f_DurableState_take_ballot)))
    (i_DurableState_take_ballot : PySem.W.isFn K (.ref f_DurableState_take_ballot) = true)
    (l_DurableState_take_ballot : K.lookup f_DurableState_take_ballot = some ⟨oc_DurableState_take_ballot, od_DurableState_take_ballot, .func (PySem.W.fnOf "take_ballot" "DurableState.take_ballot" (defArgs s_DurableState_take_ballot) (defBody s_DurableState_take_ballot) (defScope s_DurableState_take_ballot) .none kV_DurableState_take_ballot dc_DurableState_take_ballot pm_DurableState_take_ballot an_DurableState_take_ballot cd_DurableState_take_ballot ct_DurableState_take_ballot), sl_DurableState_take_ballot⟩)
    (c_DurableState_take_ballot : PySem.W.codeIn K cd_DurableState_take_ballot "DurableState.take_ballot" = true)
    (k_DurableState_take_ballot : PySem.W.keepIn K (.ref f_DurableState_take_ballot) = true)
    (a_DurableState_take_promise : PySem.W.findIn K (.ref C_DurableState) "take_promise" = some (some (.ref f_DurableState_take_promise)))
    (i_DurableState_take_promise : PySem.W.isFn K (.ref f_DurableState_take_promise) = true)
    (l_DurableState_take_promise : K.lookup f_DurableState_take_promise = some ⟨oc_DurableState_take_promise, od_DurableState_take_promise, .func (PySem.W.fnOf "take_promise" "DurableState.take_promise" (defArgs s_DurableState_take_promise) (defBody s_DurableState_take_promise) (defScope s_DurableState_take_promise) .none kV_DurableState_take_promise dc_DurableState_take_promise pm_DurableState_take_promise an_DurableState_take_promise cd_DurableState_take_promise ct_DurableState_take_promise), sl_DurableState_take_promise⟩)
    (c_DurableState_take_promise : PySem.W.codeIn K cd_DurableState_take_promise "DurableState.take_promise" = true)
    (k_DurableState_take_promise : PySem.W.keepIn K (.ref f_DurableState_take_promise) = true)
    (a_DurableState_take_entry : PySem.W.findIn K (.ref C_DurableState) "take_entry" = some (some (.ref f_DurableState_take_entry)))
    (i_DurableState_take_entry : PySem.W.isFn K (.ref f_DurableState_take_entry) = true)
    (l_DurableState_take_entry : K.lookup f_DurableState_take_entry = some ⟨oc_DurableState_take_entry, od_DurableState_take_entry, .func (PySem.W.fnOf "take_entry" "DurableState.take_entry" (defArgs s_DurableState_take_entry) (defBody s_DurableState_take_entry) (defScope s_DurableState_take_entry) .none kV_DurableState_take_entry dc_DurableState_take_entry pm_DurableState_take_entry an_DurableState_take_entry cd_DurableState_take_entry ct_DurableState_take_entry), sl_DurableState_take_entry⟩)
    (c_DurableState_take_entry : PySem.W.codeIn K cd_DurableState_take_entry "DurableState.take_entry" = true)
    (k_DurableState_take_entry : PySem.W.keepIn K (.ref f_DurableState_take_entry) = true)
    (a__law_cell : PySem.W.nsIn K mainGlobals "_law_cell" = some (some (.ref f__law_cell)))
    (l__law_cell : K.lookup f__law_cell = some ⟨oc__law_cell, od__law_cell, .func (PySem.W.fnOf "_law_cell" "_law_cell" (defArgs s__law_cell) (defBody s__law_cell) (defScope s__law_cell) .none kV__law_cell dc__law_cell pm__law_cell an__law_cell cd__law_cell ct__law_cell), sl__law_cell⟩)
    (c__law_cell : PySem.W.codeIn K cd__law_cell "_law_cell" = true)
    (k__law_cell : PySem.W.keepIn K (.ref f__law_cell) = true)
    (a__law_is_int : PySem.W.nsIn K mainGlobals "_law_is_int" = some (some (.ref f__law_is_int)))
    (l__law_is_int : K.lookup f__law_is_int = some ⟨oc__law_is_int, od__law_is_int, .func (PySem.W.fnOf "_law_is_int" "_law_is_int" (defArgs s__law_is_int) (defBody s__law_is_int) (defScope s__law_is_int) .none kV__law_is_int dc__law_is_int pm__law_is_int an__law_is_int cd__law_is_int ct__law_is_int), sl__law_is_int⟩)
    (c__law_is_int : PySem.W.codeIn K cd__law_is_int "_law_is_int" = true)
    (k__law_is_int : PySem.W.keepIn K (.ref f__law_is_int) = true)
    (a__law_apply : PySem.W.nsIn K mainGlobals "_law_apply" = some (some (.ref f__law_apply)))
    (l__law_apply : K.lookup f__law_apply = some ⟨oc__law_apply, od__law_apply, .func (PySem.W.fnOf "_law_apply" "_law_apply" (defArgs s__law_apply) (defBody s__law_apply) (defScope s__law_apply) .none kV__law_apply dc__law_apply pm__law_apply an__law_apply cd__law_apply ct__law_apply), sl__law_apply⟩)
    (c__law_apply : PySem.W.codeIn K cd__law_apply "_law_apply" = true)
    (k__law_apply : PySem.W.keepIn K (.ref f__law_apply) = true)
    (a__law_change : PySem.W.nsIn K mainGlobals "_law_change" = some (some (.ref f__law_change)))
    (l__law_change : K.lookup f__law_change = some ⟨oc__law_change, od__law_change, .func (PySem.W.fnOf "_law_change" "_law_change" (defArgs s__law_change) (defBody s__law_change) (defScope s__law_change) .none kV__law_change dc__law_change pm__law_change an__law_change cd__law_change ct__law_change), sl__law_change⟩)
    (c__law_change : PySem.W.codeIn K cd__law_change "_law_change" = true)
    (k__law_change : PySem.W.keepIn K (.ref f__law_change) = true)
    (a__law_refused : PySem.W.nsIn K mainGlobals "_law_refused" = some (some (.ref f__law_refused)))
    (l__law_refused : K.lookup f__law_refused = some ⟨oc__law_refused, od__law_refused, .func (PySem.W.fnOf "_law_refused" "_law_refused" (defArgs s__law_refused) (defBody s__law_refused) (defScope s__law_refused) .none kV__law_refused dc__law_refused pm__law_refused an__law_refused cd__law_refused ct__law_refused), sl__law_refused⟩)
    (c__law_refused : PySem.W.codeIn K cd__law_refused "_law_refused" = true)
    (k__law_refused : PySem.W.keepIn K (.ref f__law_refused) = true)
    (a_law : PySem.W.nsIn K mainGlobals "law" = some (some (.ref f_law)))
    (l_law : K.lookup f_law = some ⟨oc_law, od_law, .func (PySem.W.fnOf "law" "law" (defArgs s_law) (defBody s_law) (defScope s_law) .none kV_law dc_law pm_law an_law cd_law ct_law), sl_law⟩)
    (c_law : PySem.W.codeIn K cd_law "law" = true)
    (k_law : PySem.W.keepIn K (.ref f_law) = true)
    (x0_NO_VOTE : PySem.W.nsIn K mainGlobals "NO_VOTE" = some (some (.int (-1) tk_NO_VOTE)))
    (z_len : PySem.W.nsIn K mainGlobals "len" = some none)
    (z_abs : PySem.W.nsIn K mainGlobals "abs" = some none)
    (z_int : PySem.W.nsIn K mainGlobals "int" = some none)
    (z_isinstance : PySem.W.nsIn K mainGlobals "isinstance" = some none)
    (z_bool : PySem.W.nsIn K mainGlobals "bool" = some none)
    (z_max : PySem.W.nsIn K mainGlobals "max" = some none)
    (z_range : PySem.W.nsIn K mainGlobals "range" = some none)
    (z_list : PySem.W.nsIn K mainGlobals "list" = some none)
    (z_min : PySem.W.nsIn K mainGlobals "min" = some none)
    (z_tuple : PySem.W.nsIn K mainGlobals "tuple" = some none) :
    ∃ fd : FuncData, (∀ (s : Shared) (v : Value), BindsTo s fd ⟨[v], []⟩ [("script", v)]) ∧ ∀ base : Heap, K.In base → base.Ns mainGlobals mg → FnOk l.prog w K mg base CX0 10 fa fd ["script"] (spLaw K) := by
  have e : f_law = fa := (Value.ref.inj (Option.some.inj (hfa.symm.trans (PySem.W.mg_of X G a_law)))).symm
  subst e
  let T : Env K mg := {
    c_MeridianError := C_MeridianError,
    c_Refused := C_Refused,
    a_DurableState := C_DurableState,
    a_replay := f_replay,
    d_replay := _,
    F_replay := fun_mk (st := s_replay) l_replay c_replay k_replay,
    b_replay := (fun_mk (st := s_replay) l_replay c_replay k_replay).binds (ps := ["notes"]) fun _ _ _ _ _ _ us hl => match us, hl with | [_], _ => rfl,
    g_replay := PySem.W.mg_of X G a_replay,
    a_state_after := f_state_after,
    d_state_after := _,
    F_state_after := fun_mk (st := s_state_after) l_state_after c_state_after k_state_after,
    b_state_after := (fun_mk (st := s_state_after) l_state_after c_state_after k_state_after).binds (ps := ["notes"]) fun _ _ _ _ _ _ us hl => match us, hl with | [_], _ => rfl,
    g_state_after := PySem.W.mg_of X G a_state_after,
    a_DurableState_init := f_DurableState_init,
    d_DurableState_init := _,
    F_DurableState_init := fun_mk (st := s_DurableState_init) l_DurableState_init c_DurableState_init k_DurableState_init,
    b_DurableState_init := (fun_mk (st := s_DurableState_init) l_DurableState_init c_DurableState_init k_DurableState_init).binds (ps := ["self"]) fun _ _ _ _ _ _ us hl => match us, hl with | [_], _ => rfl,
    a_DurableState_take := f_DurableState_take,
    d_DurableState_take := _,
    F_DurableState_take := fun_mk (st := s_DurableState_take) l_DurableState_take c_DurableState_take k_DurableState_take,
    b_DurableState_take := (fun_mk (st := s_DurableState_take) l_DurableState_take c_DurableState_take k_DurableState_take).binds (ps := ["self", "note"]) fun _ _ _ _ _ _ us hl => match us, hl with | [_, _], _ => rfl,
    a_DurableState_take_ballot := f_DurableState_take_ballot,
    d_DurableState_take_ballot := _,
    F_DurableState_take_ballot := fun_mk (st := s_DurableState_take_ballot) l_DurableState_take_ballot c_DurableState_take_ballot k_DurableState_take_ballot,
    b_DurableState_take_ballot := (fun_mk (st := s_DurableState_take_ballot) l_DurableState_take_ballot c_DurableState_take_ballot k_DurableState_take_ballot).binds (ps := ["self", "term", "vote"]) fun _ _ _ _ _ _ us hl => match us, hl with | [_, _, _], _ => rfl,
    a_DurableState_take_promise := f_DurableState_take_promise,
    d_DurableState_take_promise := _,
    F_DurableState_take_promise := fun_mk (st := s_DurableState_take_promise) l_DurableState_take_promise c_DurableState_take_promise k_DurableState_take_promise,
    b_DurableState_take_promise := (fun_mk (st := s_DurableState_take_promise) l_DurableState_take_promise c_DurableState_take_promise k_DurableState_take_promise).binds (ps := ["self", "until"]) fun _ _ _ _ _ _ us hl => match us, hl with | [_, _], _ => rfl,
    a_DurableState_take_entry := f_DurableState_take_entry,
    d_DurableState_take_entry := _,
    F_DurableState_take_entry := fun_mk (st := s_DurableState_take_entry) l_DurableState_take_entry c_DurableState_take_entry k_DurableState_take_entry,
    b_DurableState_take_entry := (fun_mk (st := s_DurableState_take_entry) l_DurableState_take_entry c_DurableState_take_entry k_DurableState_take_entry).binds (ps := ["self", "index", "term", "record"]) fun _ _ _ _ _ _ us hl => match us, hl with | [_, _, _, _], _ => rfl,
    a__law_cell := f__law_cell,
    d__law_cell := _,
    F__law_cell := fun_mk (st := s__law_cell) l__law_cell c__law_cell k__law_cell,
    b__law_cell := (fun_mk (st := s__law_cell) l__law_cell c__law_cell k__law_cell).binds (ps := ["script", "k"]) fun _ _ _ _ _ _ us hl => match us, hl with | [_, _], _ => rfl,
    g__law_cell := PySem.W.mg_of X G a__law_cell,
    a__law_is_int := f__law_is_int,
    d__law_is_int := _,
    F__law_is_int := fun_mk (st := s__law_is_int) l__law_is_int c__law_is_int k__law_is_int,
    b__law_is_int := (fun_mk (st := s__law_is_int) l__law_is_int c__law_is_int k__law_is_int).binds (ps := ["thing"]) fun _ _ _ _ _ _ us hl => match us, hl with | [_], _ => rfl,
    g__law_is_int := PySem.W.mg_of X G a__law_is_int,
    a__law_apply := f__law_apply,
    d__law_apply := _,
    F__law_apply := fun_mk (st := s__law_apply) l__law_apply c__law_apply k__law_apply,
    b__law_apply := (fun_mk (st := s__law_apply) l__law_apply c__law_apply k__law_apply).binds (ps := ["state", "note"]) fun _ _ _ _ _ _ us hl => match us, hl with | [_, _], _ => rfl,
    g__law_apply := PySem.W.mg_of X G a__law_apply,
    a__law_change := f__law_change,
    d__law_change := _,
    F__law_change := fun_mk (st := s__law_change) l__law_change c__law_change k__law_change,
    b__law_change := (fun_mk (st := s__law_change) l__law_change c__law_change k__law_change).binds (ps := ["cell", "state"]) fun _ _ _ _ _ _ us hl => match us, hl with | [_, _], _ => rfl,
    g__law_change := PySem.W.mg_of X G a__law_change,
    a__law_refused := f__law_refused,
    d__law_refused := _,
    F__law_refused := fun_mk (st := s__law_refused) l__law_refused c__law_refused k__law_refused,
    b__law_refused := (fun_mk (st := s__law_refused) l__law_refused c__law_refused k__law_refused).binds (ps := ["notes"]) fun _ _ _ _ _ _ us hl => match us, hl with | [_], _ => rfl,
    g__law_refused := PySem.W.mg_of X G a__law_refused,
    a_law := f_law,
    d_law := _,
    F_law := fun_mk (st := s_law) l_law c_law k_law,
    b_law := (fun_mk (st := s_law) l_law c_law k_law).binds (ps := ["script"]) fun _ _ _ _ _ _ us hl => match us, hl with | [_], _ => rfl,
    e_MeridianError := ⟨PySem.W.mg_of X G mg_MeridianError, x_MeridianError, kc_MeridianError, bp_MeridianError, tp_MeridianError, ip_MeridianError, ⟨ga_MeridianError, gt_MeridianError, bp_MeridianError, hd_MeridianError, ca_MeridianError, cn, ct, mo_MeridianError⟩, kit_ty_sub ve_MeridianError (by decide +kernel)⟩,
    u_MeridianError_MeridianError := PySem.W.exm_ref bp_MeridianError hd_MeridianError tp_MeridianError u_MeridianError_MeridianError,
    q_MeridianError_MeridianError := kit_own u_MeridianError_MeridianError u_MeridianError_MeridianError ip_MeridianError tp_MeridianError,
    u_MeridianError_Refused := PySem.W.exm_ref bp_Refused hd_Refused tp_Refused u_MeridianError_Refused,
    q_MeridianError_Refused := kit_own u_MeridianError_Refused u_MeridianError_MeridianError ip_Refused tp_Refused,
    e_Refused := ⟨PySem.W.mg_of X G mg_Refused, x_Refused, kc_Refused, bp_Refused, tp_Refused, ip_Refused, ⟨ga_Refused, gt_Refused, bp_Refused, hd_Refused, ca_Refused, cn, ct, mo_Refused⟩, kit_ty_sub ve_Refused (by decide +kernel)⟩,
    u_Refused_MeridianError := PySem.W.exm_ref bp_MeridianError hd_MeridianError tp_MeridianError u_Refused_MeridianError,
    q_Refused_MeridianError := kit_own u_Refused_MeridianError u_Refused_Refused ip_MeridianError tp_MeridianError,
    u_Refused_Refused := PySem.W.exm_ref bp_Refused hd_Refused tp_Refused u_Refused_Refused,
    q_Refused_Refused := kit_own u_Refused_Refused u_Refused_Refused ip_Refused tp_Refused,
    k_DurableState := ⟨⟨pg_DurableState, hd_DurableState, po_DurableState, sa_DurableState⟩, PySem.W.mg_of X G mg_DurableState, ca_DurableState, cn, ct, mo_DurableState⟩,
    n_DurableState_ballot := na_DurableState_ballot,
    n_DurableState_until := na_DurableState_until,
    n_DurableState_log := na_DurableState_log,
    M_DurableState := ⟨mk_DurableState, a_DurableState_init, i_DurableState_init, kc_DurableState⟩,
    m_DurableState_take := ⟨a_DurableState_take, i_DurableState_take, k_DurableState_take⟩,
    m_DurableState_take_ballot := ⟨a_DurableState_take_ballot, i_DurableState_take_ballot, k_DurableState_take_ballot⟩,
    m_DurableState_take_promise := ⟨a_DurableState_take_promise, i_DurableState_take_promise, k_DurableState_take_promise⟩,
    m_DurableState_take_entry := ⟨a_DurableState_take_entry, i_DurableState_take_entry, k_DurableState_take_entry⟩,
    o_NO_VOTE := _,
    k_NO_VOTE := PySem.W.mg_of X G x0_NO_VOTE,
    r_NO_VOTE := ⟨_, rfl⟩,
    z_len := PySem.W.mg_none_of X G z_len,
    z_abs := PySem.W.mg_none_of X G z_abs,
    z_int := PySem.W.mg_none_of X G z_int,
    z_isinstance := PySem.W.mg_none_of X G z_isinstance,
    z_bool := PySem.W.mg_none_of X G z_bool,
    z_max := PySem.W.mg_none_of X G z_max,
    z_range := PySem.W.mg_none_of X G z_range,
    z_list := PySem.W.mg_none_of X G z_list,
    z_min := PySem.W.mg_none_of X G z_min,
    z_tuple := PySem.W.mg_none_of X G z_tuple }
  exact ⟨PySem.W.fnOf "law" "law" (defArgs s_law) (defBody s_law) (defScope s_law) .none kV_law dc_law pm_law an_law cd_law ct_law, fun s v => .of_eq rfl, fun base _ _ => ok_law T⟩
theorem walk {l : PySem.W.OpenLaw} {q : Program} {loose : List Str} {XP : (Str → Option Value) → Heap → Prop} {YP : World → Heap → Prop} {d : DefRec} {K : Params → PySem.W.Frag} (hn : l.most = some 63) (hdf : d.params.defaults = [])
    (hY : ∀ (w : World) (h : Heap), YP w h → (K w.params).In h)
    (F : ∀ (w : World) (mg : Str → Option Value) (fa : Addr) (h : Heap), (K w.params).In h → h.Ns mainGlobals mg → mg d.name = some (.ref fa) →
      ∃ fd : FuncData, (∀ (s : Shared) (u : Value), BindsTo s fd ⟨[u], []⟩ [("script", u)]) ∧ ∀ base : Heap, (K w.params).In base → base.Ns mainGlobals mg → FnOk l.prog w (K w.params) mg base CX0 10 fa fd ["script"] (spLaw (K w.params))) :
    PySem.W.WalkO q loose XP YP l.row.toRowW d [] (fun f vs => PySem.call f vs) :=
  L2.walk_of (n := 63) (k := 10) (x := "script") (CX := fun _ => CX0) (sp := fun w => spLaw (K w.params)) hn (by decide) hdf ⟨rfl, by decide, by decide⟩ hY F (fun _ _ a ns hl _ hS => ⟨a, ns, rfl, hS, hl, fun _ => rfl⟩) fun _ _ _ _ _ z => z
end Dv
open PySem PySem.W PyProof.Rows in
set_option maxRecDepth 100000 in
set_option maxHeartbeats 0 in
theorem PySem.Challenge.cw_meridian_k13_notes_replayed_holds : PySem.Challenge.rw_meridian_k13_notes_replayed.Holds := by
  w_on; o_law; k_head; (case hw => w_witness2)
  k_fill
  refine Dv.walk (l := PySem.Challenge.rw_meridian_k13_notes_replayed) rfl rfl (fun w h Y => PySem.W.kIn_of Y) ?F
  case F =>
    intro w mg fa h KX G hmg
    refine' Dv.all_mk KX G hmg ?mg_MeridianError ?x_MeridianError ?kc_MeridianError ?bp_MeridianError ?tp_MeridianError ?ip_MeridianError ?ga_MeridianError ?gt_MeridianError ?hd_MeridianError ?ca_MeridianError ?mo_MeridianError ?ve_MeridianError ?u_MeridianError_MeridianError ?u_MeridianError_Refused ?mg_Refused ?x_Refused ?kc_Refused ?bp_Refused ?tp_Refused ?ip_Refused ?ga_Refused ?gt_Refused ?hd_Refused ?ca_Refused ?mo_Refused ?ve_Refused ?u_Refused_MeridianError ?u_Refused_Refused ?cn ?ct ?mg_DurableState ?pg_DurableState ?hd_DurableState ?po_DurableState ?sa_DurableState ?mk_DurableState ?kc_DurableState ?ca_DurableState ?mo_DurableState ?na_DurableState_ballot ?na_DurableState_until ?na_DurableState_log ?a_replay ?l_replay ?c_replay ?k_replay ?a_state_after ?l_state_after ?c_state_after ?k_state_after ?a_DurableState_init ?i_DurableState_init ?l_DurableState_init ?c_DurableState_init ?k_DurableState_init ?a_DurableState_take ?i_DurableState_take ?l_DurableState_take ?c_DurableState_take ?k_DurableState_take ?a_DurableState_take_ballot ?i_DurableState_take_ballot ?l_DurableState_take_ballot ?c_DurableState_take_ballot ?k_DurableState_take_ballot ?a_DurableState_take_promise ?i_DurableState_take_promise ?l_DurableState_take_promise ?c_DurableState_take_promise ?k_DurableState_take_promise ?a_DurableState_take_entry ?i_DurableState_take_entry ?l_DurableState_take_entry ?c_DurableState_take_entry ?k_DurableState_take_entry ?a__law_cell ?l__law_cell ?c__law_cell ?k__law_cell ?a__law_is_int ?l__law_is_int ?c__law_is_int ?k__law_is_int ?a__law_apply ?l__law_apply ?c__law_apply ?k__law_apply ?a__law_change ?l__law_change ?c__law_change ?k__law_change ?a__law_refused ?l__law_refused ?c__law_refused ?k__law_refused ?a_law ?l_law ?c_law ?k_law ?x0_NO_VOTE ?z_len ?z_abs ?z_int ?z_isinstance ?z_bool ?z_max ?z_range ?z_list ?z_min ?z_tuple
    (case mg_MeridianError => k_is)
    (case mg_Refused => k_is)
    (case mg_DurableState => k_is)
    (case a_replay => k_is)
    (case a_state_after => k_is)
    (case a_DurableState_init => k_is)
    (case a_DurableState_take => k_is)
    (case a_DurableState_take_ballot => k_is)
    (case a_DurableState_take_promise => k_is)
    (case a_DurableState_take_entry => k_is)
    (case a__law_cell => k_is)
    (case a__law_is_int => k_is)
    (case a__law_apply => k_is)
    (case a__law_change => k_is)
    (case a__law_refused => k_is)
    (case a_law => k_is)
    (case x_MeridianError => k_exc)
    (case kc_MeridianError => k_is)
    (case bp_MeridianError => k_is)
    (case tp_MeridianError => k_is)
    (case ip_MeridianError => k_is)
    (case ga_MeridianError => k_is)
    (case gt_MeridianError => k_is)
    (case hd_MeridianError => k_is)
    (case ca_MeridianError => k_is)
    (case mo_MeridianError => k_is)
    (case ve_MeridianError => k_is)
    (case u_MeridianError_MeridianError => k_is)
    (case u_MeridianError_Refused => k_is)
    (case x_Refused => k_exc)
    (case kc_Refused => k_is)
    (case bp_Refused => k_is)
    (case tp_Refused => k_is)
    (case ip_Refused => k_is)
    (case ga_Refused => k_is)
    (case gt_Refused => k_is)
    (case hd_Refused => k_is)
    (case ca_Refused => k_is)
    (case mo_Refused => k_is)
    (case ve_Refused => k_is)
    (case u_Refused_MeridianError => k_is)
    (case u_Refused_Refused => k_is)
    (case cn => k_is)
    (case ct => k_is)
    (case pg_DurableState => k_is)
    (case hd_DurableState => k_is)
    (case po_DurableState => k_is)
    (case sa_DurableState => k_is)
    (case mk_DurableState => k_is)
    (case kc_DurableState => k_is)
    (case ca_DurableState => k_is)
    (case mo_DurableState => k_is)
    (case na_DurableState_ballot => k_is)
    (case na_DurableState_until => k_is)
    (case na_DurableState_log => k_is)
    (case l_replay => k_is)
    (case c_replay => k_is)
    (case k_replay => k_is)
    (case l_state_after => k_is)
    (case c_state_after => k_is)
    (case k_state_after => k_is)
    (case i_DurableState_init => k_is)
    (case l_DurableState_init => k_is)
    (case c_DurableState_init => k_is)
    (case k_DurableState_init => k_is)
    (case i_DurableState_take => k_is)
    (case l_DurableState_take => k_is)
    (case c_DurableState_take => k_is)
    (case k_DurableState_take => k_is)
    (case i_DurableState_take_ballot => k_is)
    (case l_DurableState_take_ballot => k_is)
    (case c_DurableState_take_ballot => k_is)
    (case k_DurableState_take_ballot => k_is)
    (case i_DurableState_take_promise => k_is)
    (case l_DurableState_take_promise => k_is)
    (case c_DurableState_take_promise => k_is)
    (case k_DurableState_take_promise => k_is)
    (case i_DurableState_take_entry => k_is)
    (case l_DurableState_take_entry => k_is)
    (case c_DurableState_take_entry => k_is)
    (case k_DurableState_take_entry => k_is)
    (case l__law_cell => k_is)
    (case c__law_cell => k_is)
    (case k__law_cell => k_is)
    (case l__law_is_int => k_is)
    (case c__law_is_int => k_is)
    (case k__law_is_int => k_is)
    (case l__law_apply => k_is)
    (case c__law_apply => k_is)
    (case k__law_apply => k_is)
    (case l__law_change => k_is)
    (case c__law_change => k_is)
    (case k__law_change => k_is)
    (case l__law_refused => k_is)
    (case c__law_refused => k_is)
    (case k__law_refused => k_is)
    (case l_law => k_is)
    (case c_law => k_is)
    (case k_law => k_is)
    (case x0_NO_VOTE => k_is)
    (case z_len => k_is)
    (case z_abs => k_is)
    (case z_int => k_is)
    (case z_isinstance => k_is)
    (case z_bool => k_is)
    (case z_max => k_is)
    (case z_range => k_is)
    (case z_list => k_is)
    (case z_min => k_is)
    (case z_tuple => k_is)
