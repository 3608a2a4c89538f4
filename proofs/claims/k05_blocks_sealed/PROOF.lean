import PyProof.Rows.All
import Wide.All
import OpenK.AllK
import Wide.FinOn
import HandS.ForExc
import HandS.ForMost
import HandS.IsInst
import HandS.ExcIs
import HandS.Wide
import HandS.CallSlots
import HandS.Property
import HandS.Defaults
import HandS.MakeKwOnly
import HandS.TupAny
import HandS.LawCells
import PySem.Challenge.RW_meridian_k05_blocks_sealed
set_option Elab.async false
set_option linter.all false
set_option maxRecDepth 100000
set_option maxHeartbeats 4000000
namespace Dv
open PySem PySem.Spec PyProof.Rows L2
def top (i : Nat) : Stmt := PySem.Challenge.pw_meridian_k05_blocks_sealed.main.body.getD i (.Pass ⟨0, 0, 0, 0⟩)
abbrev s_checksum : Stmt := (top 5)
theorem sc_checksum : FnScope ["block", "total", "byte"] ["block"] (defScope s_checksum) := ⟨rfl, rfl, rfl, by decide +kernel, rfl, by decide +kernel, by decide +kernel⟩
abbrev s_seal : Stmt := (top 6)
theorem sc_seal : FnScope ["block"] ["block"] (defScope s_seal) := ⟨rfl, rfl, rfl, by decide +kernel, rfl, by decide +kernel, by decide +kernel⟩
abbrev s_open_seal : Stmt := (top 7)
theorem sc_open_seal : FnScope ["block", "sealed"] ["block"] (defScope s_open_seal) := ⟨rfl, rfl, rfl, by decide +kernel, rfl, by decide +kernel, by decide +kernel⟩
abbrev s__checksum_bytes : Stmt := (top 8)
theorem sc__checksum_bytes : FnScope ["block", "total"] ["block"] (defScope s__checksum_bytes) := ⟨rfl, rfl, rfl, by decide +kernel, rfl, by decide +kernel, by decide +kernel⟩
abbrev s__law_cell : Stmt := (top 10)
theorem sc__law_cell : FnScope ["script", "k"] ["script", "k"] (defScope s__law_cell) := ⟨rfl, rfl, rfl, by decide +kernel, rfl, by decide +kernel, by decide +kernel⟩
abbrev s__law_is_int : Stmt := (top 11)
theorem sc__law_is_int : FnScope ["thing"] ["thing"] (defScope s__law_is_int) := ⟨rfl, rfl, rfl, by decide +kernel, rfl, by decide +kernel, by decide +kernel⟩
abbrev s__law_draws : Stmt := (top 12)
theorem sc__law_draws : FnScope ["cell", "many", "limit", "out", "k", "mixed"] ["cell", "many", "limit"] (defScope s__law_draws) := ⟨rfl, rfl, rfl, by decide +kernel, rfl, by decide +kernel, by decide +kernel⟩
abbrev s__law_block : Stmt := (top 13)
theorem sc__law_block : FnScope ["cell", "many", "number"] ["cell", "many"] (defScope s__law_block) := ⟨rfl, rfl, rfl, by decide +kernel, rfl, by decide +kernel, by decide +kernel⟩
abbrev s__law_sum : Stmt := (top 14)
theorem sc__law_sum : FnScope ["block", "total", "byte"] ["block"] (defScope s__law_sum) := ⟨rfl, rfl, rfl, by decide +kernel, rfl, by decide +kernel, by decide +kernel⟩
abbrev s__law_sealed : Stmt := (top 15)
theorem sc__law_sealed : FnScope ["block", "total"] ["block"] (defScope s__law_sealed) := ⟨rfl, rfl, rfl, by decide +kernel, rfl, by decide +kernel, by decide +kernel⟩
abbrev s__law_refused : Stmt := (top 16)
theorem sc__law_refused : FnScope ["block", "sealed", "e"] ["block", "sealed"] (defScope s__law_refused) := ⟨rfl, rfl, rfl, by decide +kernel, rfl, by decide +kernel, by decide +kernel⟩
abbrev s_law : Stmt := (top 17)
theorem sc_law : FnScope ["script", "many", "block", "given", "total", "whole", "k", "at", "spoilt", "kept", "short"] ["script"] (defScope s_law) := ⟨rfl, rfl, rfl, by decide +kernel, rfl, by decide +kernel, by decide +kernel⟩
theorem kit_own {K : PySem.W.Frag} {C E : Addr} {b : Bool} (h : PySem.W.subIn K (.ref C) (.ref E) = some b) (hs : PySem.W.subIn K (.ref C) (.ref C) = some true) (hc : PySem.W.isClsIn K E = true) (ht : PySem.W.typeIn K (.ref E) = some (.type "type")) :
    PySem.W.kitOne K (.ref C) (.ref E) = some b := by
  unfold PySem.W.kitOne
  by_cases e : (Value.ref C == Value.ref E) = true
  · rw [if_pos e]
    have e' : Value.ref C = Value.ref E := by simpa using e
    rw [← e', hs] at h
    exact h
  · rw [if_neg e]
    show (if ((PySem.W.clsIn K E).isSome && PySem.W.typeIn K (.ref E) == some (.type "type")) = true then PySem.W.subIn K (.ref C) (.ref E) else none) = some b
    have hc' : (PySem.W.clsIn K E).isSome = true := hc
    rw [hc', ht, if_pos (by rfl)]
    exact h
theorem kit_ty_sub {K : PySem.W.Frag} {C : Addr} {T : String} {b : Bool} (h : PySem.W.subIn K (.ref C) (.type T) = some b) (hm : PySem.W.kitMeta T = true) : PySem.W.kitOne K (.ref C) (.type T) = some b := by
  unfold PySem.W.kitOne
  rw [if_neg (by simp)]
  show (if PySem.W.kitMeta T = true then PySem.W.subIn K (.ref C) (.type T) else none) = some b
  rw [if_pos hm]
  exact h
/-- isinstance(e, c), isinstance(e, (c1, ..)): e the exception that the suite holds, of whatever class -/
def rIsG (K : PySem.W.Frag) (cls : Value) (d : Option Addr) (a : Addr) : List V → Hp → VK → Prop := fun xs H Q => ∃ (D : Addr) (b : Bool), cls = .ref D ∧ d = none ∧ ExcC K D ∧
  ((∃ (c : V) (cv : Value), xs = [.ref a, c] ∧ ClsV c cv ∧ PySem.W.kitOne K (.ref D) cv = some b ∧ Q (.bl b) H) ∨
   ∃ (tp : Addr) (cs : List V) (us : List Value), xs = [.ref a, .ref tp] ∧ H tp = some (.tup cs) ∧ Paired ClsV cs us ∧ PySem.W.kitAny K (.ref D) us = some b ∧ Q (.bl b) H)
theorem call_isG {X : Cx} {a : Addr} {cls : Value} {d : Option Addr} {oe : Obj} {pn : List (Addr × Obj)} (hz : Zc cls d oe) (hf : ∃ vs, oe.data = .fields vs) : CallR (X.suite a ((a, oe) :: pn)) (.builtin "isinstance") (rIsG X.K cls d a) := by
  intro pins s σ H xs us Q I r h
  obtain ⟨D, b, rfl, rfl, C, h⟩ := h
  rcases h with ⟨c, cv, rfl, hcv, e, q⟩ | ⟨tp, cs, ws, rfl, hT, k, e, q⟩
  · exact call_isE C hz hf pins s σ H _ us Q I r ⟨c, cv, b, rfl, fun u ru => hcv.eq ru, e, q⟩
  · obtain ⟨u1, u2, rfl, r1, r2⟩ := vals2 r
    cases (show u2 = Value.ref tp from r2)
    cases (show u1 = Value.ref a from r1)
    obtain ⟨hget, _⟩ := I.pin (a, oe) (List.mem_append.mpr (.inl List.mem_cons_self))
    obtain ⟨vs, hv⟩ := hf
    have J : PySem.W.InstAt s.heap a oe D none := by
      obtain ⟨oc, od, oda, osl⟩ := oe
      obtain ⟨h1, h2⟩ := hz
      dsimp only at h1 h2 hv
      subst h1 h2 hv
      exact ⟨hget, rfl, rfl, trivial⟩
    obtain ⟨_, its, rv, o, h1, h2, n, h3⟩ := (show ObjOk X.prog X.w H s.heap tp (.tup cs) from I.hok tp _ hT)
    have e3 := ClsV.all k rv
    subst e3
    obtain ⟨oc, od, dt, sl⟩ := o
    simp only at h2 h3
    subst h2 h3
    exact PySem.W.kia_tup (PySem.W.handS_kitx_exc C.hg C.hk C.hs C.hd C.ha C.hn C.ht C.hm) I.kIn J h1 e (fun z => nomatch z) fun tk => ⟨.bl b, H, I.kept (t' := tk) fun _ _ z => z, rfl, q⟩
/-- the room that == of data wants -/
theorem hu64_of {A : Around} {k : Nat} (hr : Room k A) : A.units + 64 < cLine := Nat.lt_of_le_of_lt (Nat.le_refl _) hr.units
theorem same_new {H : Hp} {p : Addr} {o : HO} (h : H p = none) : Same H (upd H p o) := fun b x e => by
  rw [upd_ne (ne_of_none e h)]
  exact e
/-- an object unknown before may change -/
theorem same_mut {H H1 : Hp} {p : Addr} {o : HO} (s : Same H H1) (h : H p = none) : Same H (upd H1 p o) := fun b x e => by
  rw [upd_ne (ne_of_none e h)]
  exact s b x e
theorem sql_new {K : PySem.W.Frag} {H : Hp} {p : Addr} {xs : List V} : SqL K (upd H p (.lst xs)) p xs := SqL.of upd_same
theorem same_dp {K : PySem.W.Frag} {H H' : Hp} (s : Same H H') : ∀ (d : PyData) (v : V), Dp K H v d → Dp K H' v d := by
  intro d v h
  exact Dp.rec (motive_1 := fun v d _ => Dp K H' v d) (motive_2 := fun vs ds _ => DpAll K H' vs ds) .non (fun b => .bl b) (fun i => .int i) (fun x => .str x)
    (fun h1 _ ih => .lst (s.seq h1) ih) (fun h1 _ ih => .tup (by rcases h1 with h1 | h1
                                                                 · rcases h1 with h1 | ⟨o, h1⟩
                                                                   · exact .inl (.inl (s _ _ h1))
                                                                   · exact .inl (.inr ⟨o, s _ _ h1⟩)
                                                                 · exact .inr h1) ih) .nil (fun _ _ h1 h2 => .cons h1 h2) h
/-! lists of ints as data -/
def dInts (ns : List Int) : PyData := .list (ns.map PyData.int)
theorem dp_all_ints {K : PySem.W.Frag} {H : Hp} : ∀ ns : List Int, DpAll K H (ns.map V.int) (ns.map PyData.int)
  | [] => .nil
  | n :: r => .cons (.int n) (dp_all_ints r)
theorem dp_ints {K : PySem.W.Frag} {H : Hp} {a : Addr} {ns : List Int} (h : SqL K H a (ns.map V.int)) : Dp K H (.ref a) (dInts ns) := .lst h (dp_all_ints ns)
theorem eqv_ints : ∀ ns ms : List Int, PyData.eqvAll (ns.map PyData.int) (ms.map PyData.int) = decide (ns = ms)
  | [], [] => rfl
  | [], _ :: _ => rfl
  | _ :: _, [] => rfl
  | n :: r, m :: t => by
    show (PyData.eqv (.int n) (.int m) && PyData.eqvAll (r.map PyData.int) (t.map PyData.int)) = _
    rw [eqv_ints r t]
    show ((n == m) && decide (r = t)) = _
    by_cases h : n = m <;> by_cases h2 : r = t <;> simp [h, h2]
theorem eqv_dInts (ns ms : List Int) : PyData.eqv (dInts ns) (dInts ms) = decide (ns = ms) := eqv_ints ns ms
theorem canLay_ints : ∀ ns : List Int, (PyData.list (ns.map PyData.int)).canLay0 = true → True := fun _ _ => trivial
theorem ifT {c : Bool} {A B : Prop} (hc : c = true) (h : A) : if c = true then A else B := by
  rw [if_pos hc]
  exact h
theorem ifF {c : Bool} {A B : Prop} (hc : c = false) (h : B) : if c = true then A else B := by
  rw [hc, if_neg Bool.false_ne_true]
  exact h
/-- both ways of an if over a decided comparison -/
theorem iteD {p : Prop} [Decidable p] {A B : Prop} (h1 : p → A) (h2 : ¬ p → B) : if decide p = true then A else B := by
  by_cases h : p
  · rw [if_pos (decide_eq_true h)]
    exact h1 h
  · rw [if_neg (by simpa using h)]
    exact h2 h
theorem iteN {p : Prop} [Decidable p] {A B : Prop} (h1 : ¬ p → A) (h2 : p → B) : if (!decide p) = true then A else B := by
  by_cases h : p
  · rw [if_neg (by simpa using h)]
    exact h2 h
  · rw [if_pos (by simpa using h)]
    exact h1 h
theorem yes_if {σ : L2.St} {H : Hp} {A B : Hp → Prop} (h : A H) : tYes σ H (fun b H3 => if b = true then A H3 else B H3) := by
  show (if true = true then A H else B H)
  rw [if_pos rfl]
  exact h
abbrev Li (H : Hp) (p : Addr) (ns : List Int) : Prop := H p = some (.lst (ns.map V.int))
theorem szl {n : Nat} (h : n ≤ 1000000) : n < sizeLine := Nat.lt_of_le_of_lt h (by decide)
theorem szle {n : Nat} (h : n ≤ 1000000) : n ≤ sizeLine := Nat.le_of_lt (szl h)
theorem mem_int {ns : List Int} {i : Nat} {x : V} (hx : (ns.map V.int)[i]? = some x) : ∃ n, ns[i]? = some n ∧ x = V.int n := by
  rw [List.getElem?_map] at hx
  cases e : ns[i]? with
  | none => rw [e] at hx; cases hx
  | some u => rw [e] at hx; exact ⟨u, rfl, (Option.some.inj hx).symm⟩
theorem li_push {H : Hp} {p : Addr} {ns : List Int} {n : Int} : Li (upd H p (.lst (ns.map V.int ++ [V.int n]))) p (ns ++ [n]) := by
  show upd _ _ _ _ = _
  rw [upd_same, List.map_append]
  rfl
theorem take_succ {α : Type} {l : List α} {i : Nat} {x : α} (h : l[i]? = some x) : l.take (i + 1) = l.take i ++ [x] := by
  rw [List.take_add_one, h]
  rfl
/-! slices of lists -/
theorem cutV_map {α : Type} (f : α → V) (xs : List α) (lo hi : Option Int) : cutV (xs.map f) lo hi = ((xs.drop (HT.sIx xs.length 0 lo)).take (HT.sIx xs.length xs.length hi - HT.sIx xs.length 0 lo)).map f := by
  unfold cutV
  rw [List.length_map, List.map_take, List.map_drop]
theorem cut_to (xs : List V) (k : Nat) : cutV xs none (some (k : Int)) = xs.take k := by
  unfold cutV
  rw [HT.sIx_none, HT.sIx_nat, List.drop_zero, Nat.sub_zero]
  by_cases h : k ≤ xs.length
  · rw [Nat.min_eq_left h]
  · rw [Nat.min_eq_right (by omega), List.take_of_length_le (Nat.le_refl _), List.take_of_length_le (by omega)]
theorem cut_from (xs : List V) (k : Nat) : cutV xs (some (k : Int)) none = xs.drop k := by
  unfold cutV
  rw [HT.sIx_none, HT.sIx_nat]
  by_cases h : k ≤ xs.length
  · rw [Nat.min_eq_left h]
    exact List.take_of_length_le (by rw [List.length_drop]; exact Nat.le_refl _)
  · rw [Nat.min_eq_right (by omega), List.drop_of_length_le (by omega), List.take_nil, List.drop_of_length_le (by omega)]
theorem cut_fromto (xs : List V) (i j : Nat) : cutV xs (some (i : Int)) (some (j : Int)) = (xs.drop i).take (j - i) := by
  unfold cutV
  rw [HT.sIx_nat, HT.sIx_nat]
  by_cases h : i ≤ xs.length
  · rw [Nat.min_eq_left h]
    by_cases h2 : j ≤ xs.length
    · rw [Nat.min_eq_left h2]
    · rw [Nat.min_eq_right (by omega), List.take_of_length_le (by rw [List.length_drop]; exact Nat.le_refl _), List.take_of_length_le (by rw [List.length_drop]; omega)]
  · rw [show xs.drop (min i xs.length) = [] from List.drop_of_length_le (by omega), List.take_nil, List.drop_of_length_le (by omega), List.take_nil]
theorem sIx_neg (n d k : Nat) (h : 0 < k) : HT.sIx n d (some (-(k : Int))) = n - k := by
  show (if -(k : Int) < 0 then (-(k : Int) + (n : Int)).toNat else _) = _
  rw [if_pos (by omega)]
  omega
theorem cut_ton (xs : List V) (k : Nat) (h : 0 < k) : cutV xs none (some (-(k : Int))) = xs.take (xs.length - k) := by
  unfold cutV
  rw [HT.sIx_none, sIx_neg _ _ _ h, List.drop_zero, Nat.sub_zero]
theorem cut_fromn (xs : List V) (k : Nat) (h : 0 < k) : cutV xs (some (-(k : Int))) none = xs.drop (xs.length - k) := by
  unfold cutV
  rw [HT.sIx_none, sIx_neg _ _ _ h]
  exact List.take_of_length_le (by rw [List.length_drop]; exact Nat.le_refl _)

/-! own rules: methods and makings whose errors depend on the slots (for a try), keywords, an own __contains__ -/
section
variable {X : Cx} {CX : CXT} {k n : Nat} {C f : Addr} {fd : FuncData} {ps ks : List Str} {sp : Sp} {E : L2.St → XK} {dvs : List V} {ds : List Value} {o e : Expr} {es : List Expr} {kws : List Keyword} {m x : Str} {p apos pos : Pos} {ta : TE} {t tk : TA}
  {g : List Value → List Value → List Value} {gV : List V → List V → List V}
theorem run_at {pins : List (Addr × Obj)} {σ : L2.St} {H : Hp} {s : Shared} {Q : VK} {E : XK} {us0 us : List Value} {kw : List (Str × Value)} {vs : List V} (F : FnOk X.prog X.w X.K X.mg X.base CX k f fd ps sp) (hr : Room k X.A) (hx : PassesAt CX X σ E)
    (I : Inv X pins σ H s) (hb : BindsTo s fd ⟨us0, kw⟩ (ps.zip us)) (r : Vals vs us) (h : sp vs H Q E) : wpAny (model X.prog X.w) X.A (call (.ref f) us0 kw) (EP X pins σ Q) X.xe s := by
  refine wpAny_call (codeAny_mono (F.run X.A X.stack s H ⟨us0, kw⟩ us vs Q E hr I.env0 hb r h) fun r s' hq => ?_)
  cases r with
  | error er => exact hx pins H s er s' I hq
  | ok fl => cases fl with
    | ret u => exact I.after hq
    | next => exact hq.elim
    | brk => exact hq.elim
    | cont => exact hq.elim
/-- o.m(e, .., k = v, ..) -/
def tMA (C : Addr) (m : Str) (n l : Nat) (sp : Sp) (gV : List V → List V → List V) (E : L2.St → XK) (ta : TE) (t tk : TA) : TE := fun σ H Q => ta σ H fun x H1 => ∃ a dx fs, x = .ref a ∧ H1 a = some (.ins C dx fs) ∧ fs.lookup m = none ∧
  t σ H1 fun vs H2 => tk σ H2 fun zs H3 => vs.length = n ∧ zs.length = l ∧ sp (gV (x :: vs) zs) H3 Q (E σ)
theorem pe_mK {pl : Sem Bool} (he : PE X o ta) (c : Cls X.K C) (hm : Meth X.K C m f) (F : FnOk X.prog X.w X.K X.mg X.base CX k f fd ps sp) (hr : Room k X.A) (hb : KBn X.K fd ps (n + 1) ks g gV) (hx : ∀ σ, PassesAt CX X σ (E σ)) (ha : PA X (e :: es) t) (hkw : PK X kws tk)
    (hall : (backToKw pos (keywordEach kws X.env)).all (·.1.isSome) = true := by rfl) (hks : (backToKw pos (keywordEach kws X.env)).filterMap (·.1) = ks := by rfl)
    (hst : starEach (e :: es) X.env = (false, eval e X.env) :: starEach es X.env := by rfl) (hpl : ((backTo pos (starEach (e :: es) X.env)).any (·.1) || (backToKw pos (keywordEach kws X.env)).any (·.1.isNone)) = false := by rfl)
    (ht : eval (.Call (.Attribute o m apos) (e :: es) kws pos) X.env = (do
      let ov ← eval o X.env
      standAt apos.atName
      let (f, first) ← holding [ov] (getMethod ov m pl)
      callWith pos f first (backTo pos (starEach (e :: es) X.env)) (backToKw pos (keywordEach kws X.env))) := by rfl) :
    PE X (.Call (.Attribute o m apos) (e :: es) kws pos) (tMA C m n ks.length sp gV E ta t tk) := by
  refine ⟨fun pins s σ H Q I h => PySem.W.methodCall_KW (pl := pl) (thn (he.run pins s σ H _ I h) fun u s1 ⟨x, H1, I1, rx, a, dx, fs, ex, ea, l, q⟩ => ?_) ht⟩
  subst ex
  obtain rfl : u = Value.ref a := rx
  refine getmeth_ok I1 ea c hm l (PySem.W.callWith_KW (first := [.ref a]) (h₀ := X.base) I.ok.mod.kin hm.kp hall (thn (ha.run pos pins s1 σ H1 _ I1 q) fun us s2 ⟨vs, H2, I2, r, q2⟩ => ?_) hpl hst)
  refine thn (hkw.run pos pins s2 σ H2 _ I2 q2) fun ws s3 ⟨zs, H3, I3, rz, l1, l2, q3⟩ => ⟨I3.kIn, ?_⟩
  rw [hks]
  have r1 : Vals (V.ref a :: vs) (Value.ref a :: us) := .cons rfl r
  exact run_at F hr (hx σ) I3 (hb.to s3 (Value.ref a :: us) ws I3.kIn (by rw [List.length_cons, ← r.length, l1]) (rz.length.symm.trans l2)) (hb.rel r1 rz) q3
theorem pe_mK0 {pl : Sem Bool} (he : PE X o ta) (c : Cls X.K C) (hm : Meth X.K C m f) (F : FnOk X.prog X.w X.K X.mg X.base CX k f fd ps sp) (hr : Room k X.A) (hb : KBn X.K fd ps 1 ks g gV) (hx : ∀ σ, PassesAt CX X σ (E σ)) (hkw : PK X kws tk)
    (hall : (backToKw pos (keywordEach kws X.env)).all (·.1.isSome) = true := by rfl) (hks : (backToKw pos (keywordEach kws X.env)).filterMap (·.1) = ks := by rfl)
    (hpl : ((backTo pos (starEach [] X.env)).any (·.1) || (backToKw pos (keywordEach kws X.env)).any (·.1.isNone)) = false := by rfl)
    (ht : eval (.Call (.Attribute o m apos) [] kws pos) X.env = (do
      let ov ← eval o X.env
      standAt apos.atName
      let (f, first) ← holding [ov] (getMethod ov m pl)
      callWith pos f first (backTo pos (starEach [] X.env)) (backToKw pos (keywordEach kws X.env))) := by rfl) :
    PE X (.Call (.Attribute o m apos) [] kws pos) (tMA C m 0 ks.length sp gV E ta tNil tk) := by
  refine ⟨fun pins s σ H Q I h => PySem.W.methodCall_KW (pl := pl) (thn (he.run pins s σ H _ I h) fun u s1 ⟨x, H1, I1, rx, a, dx, fs, ex, ea, l, q⟩ => ?_) ht⟩
  subst ex
  obtain rfl : u = Value.ref a := rx
  refine getmeth_ok I1 ea c hm l (PySem.W.callWith_KW0 (first := [.ref a]) (h₀ := X.base) I.ok.mod.kin hm.kp hall (thn (hkw.run pos pins s1 σ H1 _ I1 q) fun ws s3 ⟨zs, H3, I3, rz, l1, l2, q3⟩ => ⟨I3.kIn, ?_⟩) hpl)
  rw [hks]
  have r1 : Vals ([V.ref a]) ([Value.ref a]) := .cons rfl .nil
  exact run_at F hr (hx σ) I3 (hb.to s3 [Value.ref a] ws I3.kIn rfl (rz.length.symm.trans l2)) (hb.rel r1 rz) q3
/-- o.m(e, ..), the wish of errors by the slots -/
def tMS (C : Addr) (m : Str) (sp : Sp) (dvs : List V) (E : L2.St → XK) (ta : TE) (t : TA) : TE := fun σ H Q => ta σ H fun x H1 => ∃ a dx fs, x = .ref a ∧ H1 a = some (.ins C dx fs) ∧ fs.lookup m = none ∧ t σ H1 fun vs H2 => sp (x :: (vs ++ dvs)) H2 Q (E σ)
theorem pe_mS {pl : Sem Bool} (he : PE X o ta) (c : Cls X.K C) (hm : Meth X.K C m f) (F : FnOk X.prog X.w X.K X.mg X.base CX k f fd ps sp) (hr : Room k X.A) (hb : Binds X.K fd ps ds) (hd : Vals dvs ds) (hx : ∀ σ, PassesAt CX X σ (E σ)) (ha : PA X (e :: es) t)
    (hst : starEach (e :: es) X.env = (false, eval e X.env) :: starEach es X.env := by rfl) (hpl : (backTo pos (starEach es X.env)).any (·.1) = false := by rfl)
    (ht : eval (.Call (.Attribute o m apos) (e :: es) [] pos) X.env = (do
      let ov ← eval o X.env
      standAt apos.atName
      let (f, first) ← holding [ov] (getMethod ov m pl)
      callWith pos f first (backTo pos (starEach (e :: es) X.env)) (backToKw pos (keywordEach [] X.env))) := by rfl) :
    PE X (.Call (.Attribute o m apos) (e :: es) [] pos) (tMS C m sp dvs E ta t) := by
  refine ⟨fun pins s σ H Q I h => PySem.W.methodCall_KW (pl := pl) (thn (he.run pins s σ H _ I h) fun u s1 ⟨x, H1, I1, rx, a, dx, fs, ex, ea, l, q⟩ => ?_) ht⟩
  subst ex
  obtain rfl : u = Value.ref a := rx
  refine getmeth_ok I1 ea c hm l (PySem.W.callWith_K (first := [.ref a]) (h₀ := X.base) I.ok.mod.kin hm.kp (thn (ha.run pos pins s1 σ H1 _ I1 q) fun us s2 ⟨vs, H2, I2, r, q2⟩ => ⟨I2.kIn, ?_⟩) hst hpl)
  have r2 : Vals (V.ref a :: (vs ++ dvs)) (Value.ref a :: us ++ ds) := .cons rfl (r.append hd)
  have hl : (Value.ref a :: us ++ ds).length = ps.length := by rw [← r2.length]; exact F.len _ _ _ _ q2
  exact run_at (us0 := Value.ref a :: us) F hr (hx σ) I2 (hb s2 (Value.ref a :: us) I2.kIn hl) r2 q2
theorem pe_mS0 {pl : Sem Bool} (he : PE X o ta) (c : Cls X.K C) (hm : Meth X.K C m f) (F : FnOk X.prog X.w X.K X.mg X.base CX k f fd ps sp) (hr : Room k X.A) (hb : Binds X.K fd ps ds) (hd : Vals dvs ds) (hx : ∀ σ, PassesAt CX X σ (E σ))
    (ht : eval (.Call (.Attribute o m apos) [] [] pos) X.env = (do
      let ov ← eval o X.env
      standAt apos.atName
      let (f, first) ← holding [ov] (getMethod ov m pl)
      callWith pos f first (backTo pos (starEach [] X.env)) (backToKw pos (keywordEach [] X.env))) := by rfl) :
    PE X (.Call (.Attribute o m apos) [] [] pos) (tMS C m sp dvs E ta tNil) := by
  refine ⟨fun pins s σ H Q I h => PySem.W.methodCall_KW (pl := pl) (thn (he.run pins s σ H _ I h) fun u s1 ⟨x, H1, I1, rx, a, dx, fs, ex, ea, l, q⟩ => ?_) ht⟩
  subst ex
  obtain rfl : u = Value.ref a := rx
  have r2 : Vals (V.ref a :: ([] ++ dvs)) (Value.ref a :: [] ++ ds) := .cons rfl hd
  have hl : (Value.ref a :: [] ++ ds).length = ps.length := by rw [← r2.length]; exact F.len _ _ _ _ q
  refine getmeth_ok I1 ea c hm l (PySem.W.callWith_K0 (first := [.ref a]) I1.kIn hm.kp (run_at (us0 := [Value.ref a]) F hr (hx σ) I1 (hb s1 [Value.ref a] I1.kIn hl) r2 q))
/-- C(e, ..), the wish of errors by the slots -/
def tKS (C : Addr) (sp : Sp) (dvs : List V) (E : L2.St → XK) (t : TA) : TE := fun σ H Q => t σ H fun vs H1 => ∀ x dx, H1 x = none → H1 dx = none → dx ≠ x →
  sp (.ref x :: (vs ++ dvs)) (upd (upd H1 dx (.own x)) x (.ins C dx [])) (fun v H2 => v = .non ∧ Q (.ref x) H2) (E σ)
theorem pe_kS (M : Mk X.K C f) (F : FnOk X.prog X.w X.K X.mg X.base CX k f fd ps sp) (hr : Room (k + 1) X.A) (hg : Gl X x) (hm : X.mg x = some (.ref C)) (hb : Binds X.K fd ps ds) (hd : Vals dvs ds) (hx : ∀ σ, PassesAt CX X σ (E σ)) (ha : PA X (e :: es) t)
    (hdb : (x == ("__debug__" : Str)) = false := by decide) (he : starEach (e :: es) X.env = (false, eval e X.env) :: starEach es X.env := by rfl) (hpl : (backTo pos (starEach es X.env)).any (·.1) = false := by rfl) :
    PE X (.Call (.Name x p) (e :: es) [] pos) (tKS C sp dvs E t) := by
  refine ⟨fun pins s σ H Q I h => wpAny_Call_Name_kw (ld_glob I hg hm (PySem.W.callWith_K (h₀ := X.base) I.ok.mod.kin M.kp (thn (ha.run pos pins s σ H _ I h) fun us s1 ⟨vs, H1, I1, r, q⟩ => ⟨I1.kIn, ?_⟩) he hpl) hdb)⟩
  have hq := q (s1.heap.objs.size + 1) s1.heap.objs.size (I1.hok.fresh (Nat.le_succ _)) (I1.hok.fresh (Nat.le_refl _)) (Nat.ne_of_lt (Nat.lt_succ_self _))
  have I2 := Inv.made (C := C) I1
  have r2 : Vals (V.ref (s1.heap.objs.size + 1) :: (vs ++ dvs)) (Value.ref (s1.heap.objs.size + 1) :: us ++ ds) := .cons rfl (r.append hd)
  have hl : (Value.ref (s1.heap.objs.size + 1) :: us ++ ds).length = ps.length := by rw [← r2.length]; exact F.len _ _ _ _ hq
  refine wpAny_call (make_map (f := f) I1.kIn M.makes M.init (beq_iff_eq.mp M.fn) (codeAny_mono (F.run _ X.stack _ _ ⟨Value.ref (s1.heap.objs.size + 1) :: us, []⟩ (Value.ref (s1.heap.objs.size + 1) :: us ++ ds) _ _ (E σ) (hr.make C us [])
    (I2.env0.make C us []) (hb _ (Value.ref (s1.heap.objs.size + 1) :: us) I2.kIn hl) r2 hq) fun r s' hz => ?_))
  cases r with
  | error er => exact hx σ pins _ _ er s' I2 hz
  | ok fl => cases fl with
    | ret u =>
      obtain ⟨v, H', I3, rv, ev, q3⟩ := I2.after hz
      subst ev
      exact ⟨rv, ⟨V.ref (s1.heap.objs.size + 1), H', I3, rfl, q3⟩⟩
    | next => exact hz.elim
    | brk => exact hz.elim
    | cont => exact hz.elim
theorem passAll {X : Cx} (σ : L2.St) : PassesAt (L2.CX X.prog X.w) X σ E0 := fun pins H s er s' I h => passL pins σ H s er s' I h
/-- y in o, o of a class with its own __contains__ -/
def rInOwn (C : Addr) (sp : Sp) (E : XK) (neg : Bool) : R2 := fun y x H Q => ∃ a dx fs, x = .ref a ∧ H a = some (.ins C dx fs) ∧ sp [.ref a, y] H (fun v H' => ∃ b : Bool, v = .bl b ∧ Q (.bl (b != neg)) H') E
theorem has_own {pins : List (Addr × Obj)} {σ : L2.St} {H : Hp} {s : Shared} {E : XK} {a dx : Addr} {fs : List (Str × V)} {y : V} {v : Value} {Q : Bool → Hp → Prop} (c : Cls X.K C) (hm : Meth X.K C "__contains__" f) (F : FnOk X.prog X.w X.K X.mg X.base CX k f fd ps sp) (hr : Room k X.A)
    (hb : Binds X.K fd ps []) (hx : Passes CX X E) (I : Inv X pins σ H s) (ea : H a = some (.ins C dx fs)) (ry : RelV y v) (h : sp [.ref a, y] H (fun z H' => ∃ b : Bool, z = .bl b ∧ Q b H') E) :
    wpAny (model X.prog X.w) X.A (contains (.ref a) v) (fun b s' => ∃ H', Inv X pins σ H' s' ∧ Q b H') X.xe s := by
  obtain ⟨mA, O, _⟩ := ins_get I.hok ea
  obtain ⟨od, J, _⟩ := O.look
  unfold contains
  refine wpAny_holding (wpAny_bind (wpAny_bind (J.type.here ((PySem.W.looks_findIn I.kIn hm.at_).here ?_))))
  rw [if_neg (by simp)]
  refine wpAny_bind (PySem.W.unlessNone_K I.kIn J hm.at_ hm.fn (wpAny_mono (run_fn (us := [.ref a, v]) (vs := [.ref a, y]) F hr hb .nil hx I (.cons rfl (.cons ry .nil)) h) (fun u s' hu => ?_) fun _ _ z => z))
  obtain ⟨z, H', I', rz, b, rfl, q⟩ := hu
  obtain rfl : u = Value.bool b := rz
  exact wpAny_truthy_bool ⟨H', I', q⟩
theorem op_inOwn {E : XK} (c : Cls X.K C) (hm : Meth X.K C "__contains__" f) (F : FnOk X.prog X.w X.K X.mg X.base CX k f fd ps sp) (hr : Room k X.A) (hb : Binds X.K fd ps []) (hx : Passes CX X E) : OpR X (compareOp .In) (rInOwn C sp E false) := by
  intro pins s σ H y x v u Q I ry rx h
  obtain ⟨a, dx, fs, rfl, ea, h⟩ := h
  obtain rfl : u = Value.ref a := rx
  refine wpAny_bind (wpAny_mono (has_own (Q := fun b H' => Q (.bl b) H') c hm F hr hb hx I ea ry (by simpa using h)) (fun b s' hz => ?_) fun _ _ z => z)
  obtain ⟨H', I', q⟩ := hz
  exact wpAny_pure ⟨.bl b, H', I', rfl, q⟩
theorem op_notInOwn {E : XK} (c : Cls X.K C) (hm : Meth X.K C "__contains__" f) (F : FnOk X.prog X.w X.K X.mg X.base CX k f fd ps sp) (hr : Room k X.A) (hb : Binds X.K fd ps []) (hx : Passes CX X E) : OpR X (compareOp .NotIn) (rInOwn C sp E true) := by
  intro pins s σ H y x v u Q I ry rx h
  obtain ⟨a, dx, fs, rfl, ea, h⟩ := h
  obtain rfl : u = Value.ref a := rx
  refine wpAny_bind (wpAny_mono (has_own (Q := fun b H' => Q (.bl (!b)) H') c hm F hr hb hx I ea ry (by simpa using h)) (fun b s' hz => ?_) fun _ _ z => z)
  obtain ⟨H', I', q⟩ := hz
  exact wpAny_pure ⟨.bl (!b), H', I', rfl, q⟩
end
/-! the same rules with K named (in comprehensions and trys the context is a bound one) -/
section
variable {X : Cx} {K : PySem.W.Frag}
theorem pe_fldK {e : Expr} {ta : TE} {f : Str} {pos : Pos} (h : X.K = K) (he : PE X e ta) (hb : attributeBase e f X.env (eval e X.env) = eval e X.env) : PE X (.Attribute e f pos) (tFld K ta f) := h ▸ pe_fld he hb
theorem ixK {r : PySem.W.Frag → V → V → Hp → VK → Prop} (h : X.K = K) (q : IxR X (r X.K)) : IxR X (r K) := h ▸ q
theorem slK {r : PySem.W.Frag → V → Option Int → Option Int → Hp → VK → Prop} (h : X.K = K) (q : SlR X (r X.K)) : SlR X (r K) := h ▸ q
theorem opK {f : Value → Value → Sem Value} {r : PySem.W.Frag → R2} (h : X.K = K) (q : OpR X f (r X.K)) : OpR X f (r K) := h ▸ q
theorem callK {v : Value} {r : PySem.W.Frag → List V → Hp → VK → Prop} (h : X.K = K) (q : CallR X v (r X.K)) : CallR X v (r K) := h ▸ q
def rLenK (K : PySem.W.Frag) : List V → Hp → VK → Prop := fun xs H Q => ∃ x n, xs = [x] ∧ LenV K x H n ∧ Q (.int n) H
def rListK (K : PySem.W.Frag) : List V → Hp → VK → Prop := fun xs H Q => ∃ p ys, xs = [.ref p] ∧ (SqL K H p ys ∨ SqT K H p ys) ∧ ∀ l, H l = none → Q (.ref l) (upd H l (.lst ys))
end
/-- what the top says of an own class without errors -/
structure ClsT (K : PySem.W.Frag) (mg : Str → Option Value) (nm : Str) (C : Addr) : Prop where
  cl : Cls K C
  mgC : mg nm = some (.ref C)
  ha : PySem.W.findIn K (.ref C) "__class__" = some (some (.builtin "object.__class__"))
  hn : PySem.W.specialIn K (.builtin "object.__class__") "__get__" = some (some (.builtin "getset_descriptor.__get__"))
  ht : PySem.W.takesIn K (.builtin "object.__class__") = some true
  hm : PySem.W.mroIn K C (.type "object") = some true
theorem kit_self {K : PySem.W.Frag} {t : Value} (h : (t == t) = true) : PySem.W.kitOne K t t = some true := by
  unfold PySem.W.kitOne
  rw [if_pos h]
theorem ClsT.ty {K : PySem.W.Frag} {mg : Str → Option Value} {nm : Str} {C : Addr} (c : ClsT K mg nm C) {H : Hp} {a dx : Addr} {fs : List (Str × V)} (e : H a = some (.ins C dx fs)) : TyX K H (.ref a) (.ref C) := .base (.ins e c.cl c.ha c.hn c.ht c.hm)
/-! one rule or another, by the proof's choice -/
theorem pe_either {X : Cx} {e : Expr} {t1 t2 : TE} (h1 : PE X e t1) (h2 : PE X e t2) : PE X e (fun σ H Q => t1 σ H Q ∨ t2 σ H Q) := ⟨fun pins s σ H Q I h => h.elim (h1.run pins s σ H Q I) (h2.run pins s σ H Q I)⟩
def iSeq (K : PySem.W.Frag) (tl : TE) : TI := fun σ H R => iList K tl σ H R ∨ iTup K tl σ H R
theorem pi_seq {X : Cx} {tg l : Expr} {tl : TE} (h : PE X l tl) : PI X tg l (iSeq X.K tl) := ⟨fun pins s σ H R I h' => h'.elim ((pi_list h).run pins s σ H R I) ((pi_tup h).run pins s σ H R I)⟩
theorem hu_of {A : Around} {k : Nat} (hr : Room k A) : A.units + 1 < cLine := by
  have := hr.un
  omega

structure ExcT (K : PySem.W.Frag) (mg : Str → Option Value) (nm : Str) (C : Addr) : Prop where
  gC : mg nm = some (.ref C)
  xP : PySem.W.excIn K C [.type "ValueError", .type "Exception", .type "BaseException", .type "object"] "ValueError.__new__" = true
  kC : PySem.W.keepIn K (.ref C) = true
  bP : PySem.W.subIn K (.ref C) (.type "BaseException") = some true
  tP : PySem.W.typeIn K (.ref C) = some (.type "type")
  iP : PySem.W.isClsIn K C = true
  cP : ExcC K C
  vP : PySem.W.kitOne K (.ref C) (.type "ValueError") = some true
structure Env (K : PySem.W.Frag) (mg : Str → Option Value) where
  c_MeridianError : Addr
  c_BadBytes : Addr
  c_BadSeal : Addr
  a_checksum : Addr
  d_checksum : FuncData
  a_seal : Addr
  d_seal : FuncData
  a_open_seal : Addr
  d_open_seal : FuncData
  a__checksum_bytes : Addr
  d__checksum_bytes : FuncData
  a__law_cell : Addr
  d__law_cell : FuncData
  a__law_is_int : Addr
  d__law_is_int : FuncData
  a__law_draws : Addr
  d__law_draws : FuncData
  a__law_block : Addr
  d__law_block : FuncData
  a__law_sum : Addr
  d__law_sum : FuncData
  a__law_sealed : Addr
  d__law_sealed : FuncData
  a__law_refused : Addr
  d__law_refused : FuncData
  a_law : Addr
  d_law : FuncData
  F_checksum : Fun K "checksum" "checksum" s_checksum a_checksum d_checksum
  b_checksum : Binds K d_checksum ["block"] []
  g_checksum : mg "checksum" = some (.ref a_checksum)
  F_seal : Fun K "seal" "seal" s_seal a_seal d_seal
  b_seal : Binds K d_seal ["block"] []
  g_seal : mg "seal" = some (.ref a_seal)
  F_open_seal : Fun K "open_seal" "open_seal" s_open_seal a_open_seal d_open_seal
  b_open_seal : Binds K d_open_seal ["block"] []
  g_open_seal : mg "open_seal" = some (.ref a_open_seal)
  F__checksum_bytes : Fun K "_checksum_bytes" "_checksum_bytes" s__checksum_bytes a__checksum_bytes d__checksum_bytes
  b__checksum_bytes : Binds K d__checksum_bytes ["block"] []
  g__checksum_bytes : mg "_checksum_bytes" = some (.ref a__checksum_bytes)
  F__law_cell : Fun K "_law_cell" "_law_cell" s__law_cell a__law_cell d__law_cell
  b__law_cell : Binds K d__law_cell ["script", "k"] []
  g__law_cell : mg "_law_cell" = some (.ref a__law_cell)
  F__law_is_int : Fun K "_law_is_int" "_law_is_int" s__law_is_int a__law_is_int d__law_is_int
  b__law_is_int : Binds K d__law_is_int ["thing"] []
  g__law_is_int : mg "_law_is_int" = some (.ref a__law_is_int)
  F__law_draws : Fun K "_law_draws" "_law_draws" s__law_draws a__law_draws d__law_draws
  b__law_draws : Binds K d__law_draws ["cell", "many", "limit"] []
  g__law_draws : mg "_law_draws" = some (.ref a__law_draws)
  F__law_block : Fun K "_law_block" "_law_block" s__law_block a__law_block d__law_block
  b__law_block : Binds K d__law_block ["cell", "many"] []
  g__law_block : mg "_law_block" = some (.ref a__law_block)
  F__law_sum : Fun K "_law_sum" "_law_sum" s__law_sum a__law_sum d__law_sum
  b__law_sum : Binds K d__law_sum ["block"] []
  g__law_sum : mg "_law_sum" = some (.ref a__law_sum)
  F__law_sealed : Fun K "_law_sealed" "_law_sealed" s__law_sealed a__law_sealed d__law_sealed
  b__law_sealed : Binds K d__law_sealed ["block"] []
  g__law_sealed : mg "_law_sealed" = some (.ref a__law_sealed)
  F__law_refused : Fun K "_law_refused" "_law_refused" s__law_refused a__law_refused d__law_refused
  b__law_refused : Binds K d__law_refused ["block", "sealed"] []
  g__law_refused : mg "_law_refused" = some (.ref a__law_refused)
  F_law : Fun K "law" "law" s_law a_law d_law
  b_law : Binds K d_law ["script"] []
  e_MeridianError : ExcT K mg "MeridianError" c_MeridianError
  u_MeridianError_MeridianError : PySem.W.exmOne K (.ref c_MeridianError) (.ref c_MeridianError) = some true
  q_MeridianError_MeridianError : PySem.W.kitOne K (.ref c_MeridianError) (.ref c_MeridianError) = some true
  u_MeridianError_BadBytes : PySem.W.exmOne K (.ref c_MeridianError) (.ref c_BadBytes) = some false
  q_MeridianError_BadBytes : PySem.W.kitOne K (.ref c_MeridianError) (.ref c_BadBytes) = some false
  u_MeridianError_BadSeal : PySem.W.exmOne K (.ref c_MeridianError) (.ref c_BadSeal) = some false
  q_MeridianError_BadSeal : PySem.W.kitOne K (.ref c_MeridianError) (.ref c_BadSeal) = some false
  e_BadBytes : ExcT K mg "BadBytes" c_BadBytes
  u_BadBytes_MeridianError : PySem.W.exmOne K (.ref c_BadBytes) (.ref c_MeridianError) = some true
  q_BadBytes_MeridianError : PySem.W.kitOne K (.ref c_BadBytes) (.ref c_MeridianError) = some true
  u_BadBytes_BadBytes : PySem.W.exmOne K (.ref c_BadBytes) (.ref c_BadBytes) = some true
  q_BadBytes_BadBytes : PySem.W.kitOne K (.ref c_BadBytes) (.ref c_BadBytes) = some true
  u_BadBytes_BadSeal : PySem.W.exmOne K (.ref c_BadBytes) (.ref c_BadSeal) = some false
  q_BadBytes_BadSeal : PySem.W.kitOne K (.ref c_BadBytes) (.ref c_BadSeal) = some false
  e_BadSeal : ExcT K mg "BadSeal" c_BadSeal
  u_BadSeal_MeridianError : PySem.W.exmOne K (.ref c_BadSeal) (.ref c_MeridianError) = some true
  q_BadSeal_MeridianError : PySem.W.kitOne K (.ref c_BadSeal) (.ref c_MeridianError) = some true
  u_BadSeal_BadBytes : PySem.W.exmOne K (.ref c_BadSeal) (.ref c_BadBytes) = some true
  q_BadSeal_BadBytes : PySem.W.kitOne K (.ref c_BadSeal) (.ref c_BadBytes) = some true
  u_BadSeal_BadSeal : PySem.W.exmOne K (.ref c_BadSeal) (.ref c_BadSeal) = some true
  q_BadSeal_BadSeal : PySem.W.kitOne K (.ref c_BadSeal) (.ref c_BadSeal) = some true
  z_len : mg "len" = none
  z_abs : mg "abs" = none
  z_int : mg "int" = none
  z_isinstance : mg "isinstance" = none
  z_bool : mg "bool" = none
  z_range : mg "range" = none
  z_list : mg "list" = none
section
variable {P : Program} {w : World} {K : PySem.W.Frag} {mg : Str → Option Value} {base : Heap}
--PART /work/steering/wip/tools/pre.lean


--PART /work/steering/wip/tools/own.lean


--PART /work/steering/wip/parts/rets.lean

--PART /work/steering/wip/parts/num.lean
/-! ### base 128 -/
def vint (n : Int) : List Int := if n < 128 then [n] else (n % 128 + 128) :: vint (n / 128)
termination_by n.toNat
decreasing_by omega
theorem vint_lt {n : Int} (h : n < 128) : vint n = [n] := by rw [vint, if_pos h]
theorem vint_ge {n : Int} (h : ¬ n < 128) : vint n = (n % 128 + 128) :: vint (n / 128) := by rw [vint, if_neg h]
def NB : Int := 128 ^ 100
theorem vint_len : ∀ (k : Nat) (n : Int), n < 128 ^ (k + 1) → (vint n).length ≤ k + 1
  | 0, n, h => by
    have h' : n < 128 := by simpa using h
    rw [vint_lt h']
    exact Nat.le_refl _
  | k + 1, n, h => by
    by_cases c : n < 128
    · rw [vint_lt c]
      show 1 ≤ _
      omega
    · rw [vint_ge c, List.length_cons]
      have := vint_len k (n / 128) (by
        have e : (128 : Int) ^ (k + 1 + 1) = 128 ^ (k + 1) * 128 := Int.pow_succ ..
        rw [e] at h
        exact Int.ediv_lt_of_lt_mul (by decide) h)
      omega
theorem vint_len100 {n : Int} (h : n < NB) : (vint n).length ≤ 100 := vint_len 99 n h
theorem vint_ne (n : Int) : vint n ≠ [] := by
  by_cases c : n < 128
  · rw [vint_lt c]; simp
  · rw [vint_ge c]; simp
theorem vint_pos (n : Int) : 1 ≤ (vint n).length := by
  have := vint_ne n
  cases e : vint n with
  | nil => exact absurd e this
  | cons a r => simp
theorem vint_byte : ∀ (k : Nat) (n : Int), n < 128 ^ (k + 1) → 0 ≤ n → ∀ b ∈ vint n, 0 ≤ b ∧ b < 256
  | 0, n, h, h0, b, hb => by
    have h' : n < 128 := by simpa using h
    rw [vint_lt h'] at hb
    have : b = n := by simpa using hb
    omega
  | k + 1, n, h, h0, b, hb => by
    by_cases c : n < 128
    · rw [vint_lt c] at hb
      have : b = n := by simpa using hb
      omega
    · rw [vint_ge c] at hb
      rcases List.mem_cons.mp hb with e | e
      · omega
      · exact vint_byte k (n / 128) (by
          have e : (128 : Int) ^ (k + 1 + 1) = 128 ^ (k + 1) * 128 := Int.pow_succ ..
          rw [e] at h
          exact Int.ediv_lt_of_lt_mul (by decide) h) (by omega) b e
theorem vint_byte_NB {n : Int} (h : n < NB) (h0 : 0 ≤ n) : ∀ b ∈ vint n, 0 ≤ b ∧ b < 256 := vint_byte 99 n h h0
/-! ### numbers of the law -/
def lawNum (c : Int) : Int := if c < 10 ^ 18 then ([0, 1, 127, 128, 129, 16383, 16384, 16385, c] : List Int).getD (c % 9).toNat 0 else c % 10 ^ 60
theorem lawNum_lt {c : Int} (h : 0 ≤ c) : 0 ≤ lawNum c ∧ lawNum c < 10 ^ 60 := by
  unfold lawNum
  by_cases k : c < 10 ^ 18
  · rw [if_pos k]
    obtain ⟨j, hj, e⟩ : ∃ j : Nat, j < 9 ∧ (c % 9).toNat = j := ⟨_, by omega, rfl⟩
    rw [e]
    match j, hj with
    | 0, _ | 1, _ | 2, _ | 3, _ | 4, _ | 5, _ | 6, _ | 7, _ => exact ⟨by simp, by simp⟩
    | 8, _ => exact ⟨h, by show c < _; omega⟩
  · rw [if_neg k]
    exact ⟨Int.emod_nonneg _ (by decide), Int.emod_lt_of_pos _ (by decide)⟩
theorem num_NB {n : Int} (h : n < 10 ^ 60) : n < NB := Int.lt_of_lt_of_le h (by decide +kernel)
theorem canLay_dints : ∀ ns : List Int, PyData.canLayAll0 (ns.map PyData.int) = true
  | [] => rfl
  | n :: r => by
    show (PyData.canLay0 (.int n) && PyData.canLayAll0 (r.map PyData.int)) = true
    rw [canLay_dints r]
    rfl
theorem depth_dints : ∀ ns : List Int, PyData.depthAll (ns.map PyData.int) = 0
  | [] => by unfold PyData.depthAll; rfl
  | n :: r => by
    show PyData.depthAll (.int n :: r.map PyData.int) = 0
    unfold PyData.depthAll
    rw [depth_dints r]
    unfold PyData.depth
    rfl
theorem shaped_dInts (ns : List Int) : SeqAt.shaped (dInts ns) = true := by
  unfold SeqAt.shaped dInts
  rw [show PyData.canLay0 (.list (ns.map PyData.int)) = true from by unfold PyData.canLay0; exact canLay_dints ns]
  have : PyData.depth (.list (ns.map PyData.int)) = 1 := by
    unfold PyData.depth
    rw [depth_dints]
  rw [this]
  decide

--PART /work/steering/wip/parts/lawnum.lean
/-! ### the law's own helpers -/
def cell (ns : List Int) (k : Int) : Int := ((ns.getD k.toNat 0).natAbs : Int)
theorem cell_nn (ns : List Int) (k : Int) : 0 ≤ cell ns k := Int.natCast_nonneg _
def sp__law_cell (T : Env K mg) : Sp := fun vs H Q E => ∃ (a : Addr) (ns : List Int) (k : Int), vs = [.ref a, .int k] ∧ SqL K H a (ns.map V.int) ∧ 0 ≤ k ∧ Q (.int (cell ns k)) H
theorem ok__law_cell (T : Env K mg) : FnOk P w K mg base (L2.CX P w) 1 T.a__law_cell T.d__law_cell ["script", "k"] (sp__law_cell T) := by
  refine T.F__law_cell.okX sc__law_cell (fun vs H Q E h => by obtain ⟨_, _, _, rfl, _⟩ := h; rfl) (fun cdv A outer s H vs Q E hr h => ?_)
  obtain ⟨a, ns, k, rfl, hS, hk, h1⟩ := h
  refine ⟨_, (pss_cons (ps_if (pt_cmpR op_lt (pv 1) (pe_callB call_len (by rfl) T.z_len (by decide +kernel) (pa_cons (pv 0) pa_nil)) (nomark _)) (pss_one (ps_ret (pe_callB call_abs (by rfl) T.z_abs (by decide +kernel) (pa_cons (pe_callTy call_int1 (by rfl) T.z_int (by decide +kernel) (pa_cons (pe_ix ix_list (pv 0) (pv 1) (fun _ _ => rfl)) pa_nil)) pa_nil)))) pss_nil)
      (pss_one (ps_ret pe_int))), ?_⟩
  obtain ⟨j, rfl⟩ : ∃ j : Nat, k = (j : Int) := ⟨k.toNat, by omega⟩
  have hc : cell ns (j : Int) = ((ns.getD j 0).natAbs : Int) := rfl
  refine ⟨_, rfl, _, rfl, _, _, rfl, .inl ⟨_, hS, rfl⟩, _, _, rfl, rfl, _, rfl, iteD (fun c => ?_) (fun c => ?_)⟩
  · rw [List.length_map] at c
    have hj : j < ns.length := by omega
    refine ⟨_, rfl, _, rfl, a, _, _, _, rfl, rfl, hS, at_of (j := j) (v := V.int (ns.getD j 0)) rfl (by rw [List.getElem?_map, List.getD_eq_getElem?_getD, List.getElem?_eq_getElem hj]; rfl), .inl ⟨_, rfl, _, rfl, ?_⟩⟩
    have e : (if ns.getD j 0 < 0 then -ns.getD j 0 else ns.getD j 0) = cell ns (j : Int) := by
      rw [hc]
      split <;> omega
    show Q (V.int (if ns.getD j 0 < 0 then -ns.getD j 0 else ns.getD j 0)) H
    rw [e]
    exact h1
  · rw [List.length_map] at c
    show Q (.int 0) H
    have e : cell ns (j : Int) = 0 := by
      rw [hc, List.getD_eq_getElem?_getD, List.getElem?_eq_none (by omega)]
      rfl
    rw [e] at h1
    exact h1
def sp__law_is_int (T : Env K mg) : Sp := fun vs H Q E => ∃ (i : Int), vs = [.int i] ∧ Q (.bl true) H
theorem ok__law_is_int (T : Env K mg) : FnOk P w K mg base (L2.CX P w) 1 T.a__law_is_int T.d__law_is_int ["thing"] (sp__law_is_int T) := by
  refine T.F__law_is_int.okX sc__law_is_int (fun vs H Q E h => by obtain ⟨_, rfl, _⟩ := h; rfl) (fun cdv A outer s H vs Q E hr h => ?_)
  obtain ⟨i, rfl, h1⟩ := h
  refine ⟨_, (pss_one (ps_ret (pe_and (pe_callB call_isi (by rfl) T.z_isinstance (by decide +kernel) (pa_cons (pv 0) (pa_cons (pe_bltn (v := .ty "int") (by rfl) T.z_int (by decide +kernel) rfl) pa_nil))) (pe_one (pe_not (pe_callB call_isi (by rfl) T.z_isinstance (by decide +kernel) (pa_cons (pv 0) (pa_cons (pe_bltn (v := .ty "bool") (by rfl) T.z_bool (by decide +kernel) rfl) pa_nil)))))))), ?_⟩
  refine ⟨_, rfl, _, _, _, _, _, rfl, .ty _, .base (.int _), kit_ty (b := "int") (r := true) (by decide +kernel), _, rfl, iteT ?_⟩
  exact ⟨_, rfl, _, _, _, _, _, rfl, .ty _, .base (.int _), kit_ty (b := "bool") (r := false) (by decide +kernel), _, rfl, h1⟩

--PART /work/steering/wip/parts/draws.lean
/-! ### drawn numbers -/
def bigGo (l : Int) : Nat → Int → List Int
  | 0, _ => []
  | m + 1, c => c % l :: bigGo l m (c / l)
def mixGo (l : Int) : Nat → Int → Int → List Int
  | 0, _, _ => []
  | m + 1, k, x => ((x * 16807 + 7919 * k) % 2147483647) / 64 % l :: mixGo l m (k + 1) ((x * 16807 + 7919 * k) % 2147483647)
def draws (c : Int) (m : Nat) (l : Int) : List Int := if 10 ^ 18 ≤ c then bigGo l m c else mixGo l m 0 ((c * 48271 + 12345) % 2147483647)
theorem bigGo_len (l : Int) : ∀ m c, (bigGo l m c).length = m
  | 0, _ => rfl
  | m + 1, c => by
    show (bigGo l m _).length + 1 = _
    rw [bigGo_len l m]
theorem mixGo_len (l : Int) : ∀ m k x, (mixGo l m k x).length = m
  | 0, _, _ => rfl
  | m + 1, k, x => by
    show (mixGo l m _ _).length + 1 = _
    rw [mixGo_len l m]
theorem bigGo_mem {l : Int} (hl : 0 < l) : ∀ m c, ∀ d ∈ bigGo l m c, 0 ≤ d ∧ d < l
  | 0, _, d, h => by cases h
  | m + 1, c, d, h => by
    rcases List.mem_cons.mp h with e | e
    · rw [e]
      exact ⟨Int.emod_nonneg _ (by omega), Int.emod_lt_of_pos _ hl⟩
    · exact bigGo_mem hl m _ d e
theorem mixGo_mem {l : Int} (hl : 0 < l) : ∀ m k x, ∀ d ∈ mixGo l m k x, 0 ≤ d ∧ d < l
  | 0, _, _, d, h => by cases h
  | m + 1, k, x, d, h => by
    rcases List.mem_cons.mp h with e | e
    · rw [e]
      exact ⟨Int.emod_nonneg _ (by omega), Int.emod_lt_of_pos _ hl⟩
    · exact mixGo_mem hl m _ _ d e
theorem draws_len (c : Int) (m : Nat) (l : Int) : (draws c m l).length = m := by
  unfold draws
  split
  · exact bigGo_len l m c
  · exact mixGo_len l m _ _
theorem draws_mem {c : Int} {m : Nat} {l : Int} (hl : 0 < l) : ∀ d ∈ draws c m l, 0 ≤ d ∧ d < l := by
  unfold draws
  split
  · exact bigGo_mem hl m c
  · exact mixGo_mem hl m _ _
def sp__law_draws (T : Env K mg) : Sp := fun vs H Q E => ∃ c m l : Int, vs = [.int c, .int m, .int l] ∧ 0 ≤ m ∧ m ≤ 100000 ∧ 0 < l ∧ l < 1000000 ∧ ∀ p H', Same H H' → H p = none → Li H' p (draws c m.toNat l) → Q (.ref p) H'
theorem ok__law_draws (T : Env K mg) : FnOk P w K mg base (L2.CX P w) 1 T.a__law_draws T.d__law_draws ["cell", "many", "limit"] (sp__law_draws T) := by
  refine T.F__law_draws.okX sc__law_draws (fun vs H Q E h => by obtain ⟨_, _, _, rfl, _⟩ := h; rfl) (fun cdv A outer s H vs Q E hr h => ?_)
  obtain ⟨c, m, l, rfl, hm, hm2, hl, hl2, h1⟩ := h
  refine ⟨_, (pss_cons (ps_set (i := 3) sc__law_draws.nd rfl (Or.inl rfl) (pe_lst pa_nil))
      (pss_cons (ps_if (pt_cmpR op_ge (pv 0) (pe_op op_pow pe_int pe_int) (nomark _)) (pss_cons (ps_for (passes_of rfl) rfl (pi_range1 rfl T.z_range (pa_cons (pv 1) pa_nil)) (pg_name (i := 4) sc__law_draws.nd rfl (Or.inl rfl)) (pss_cons (ps_expr (pe_bm PySem.F.plainAttrs_list PySem.F.slot_list_append PySem.F.type_list_append mt_append (pv 3) (pa_cons (pe_op op_mod (pe_callTy call_int1 (by rfl) T.z_int (by decide +kernel) (pa_cons (pv 0) pa_nil)) (pv 2)) pa_nil)))
      (pss_one (ps_set (i := 0) sc__law_draws.nd rfl (Or.inl rfl) (pe_op op_fdiv (pv 0) (pv 2))))))
      (pss_one (ps_ret (pv 3)))) pss_nil)
      (pss_cons (ps_set (i := 5) sc__law_draws.nd rfl (Or.inl rfl) (pe_op op_mod (pe_callTy call_int1 (by rfl) T.z_int (by decide +kernel) (pa_cons (pe_op op_add (pe_op op_mul (pv 0) pe_int) pe_int) pa_nil)) pe_int))
      (pss_cons (ps_for (passes_of rfl) rfl (pi_range1 rfl T.z_range (pa_cons (pv 1) pa_nil)) (pg_name (i := 4) sc__law_draws.nd rfl (Or.inl rfl)) (pss_cons (ps_set (i := 5) sc__law_draws.nd rfl (Or.inl rfl) (pe_op op_mod (pe_callTy call_int1 (by rfl) T.z_int (by decide +kernel) (pa_cons (pe_op op_add (pe_op op_mul (pv 5) pe_int) (pe_op op_mul pe_int (pv 4))) pa_nil)) pe_int))
      (pss_one (ps_expr (pe_bm PySem.F.plainAttrs_list PySem.F.slot_list_append PySem.F.type_list_append mt_append (pv 3) (pa_cons (pe_op op_mod (pe_op op_fdiv (pv 5) pe_int) (pv 2)) pa_nil))))))
      (pss_one (ps_ret (pv 3))))))), ?_⟩
  refine ⟨Nat.zero_le _, fun p np => ?_⟩
  refine ⟨_, rfl, _, _, rfl, rfl, ⟨by decide, by decide, by decide⟩, _, _, rfl, rfl, _, rfl, iteD (fun k => ?_) (fun k => ?_)⟩
  · have k : 10 ^ 18 ≤ c := k
    have ed : draws c m.toNat l = bigGo l m.toNat c := if_pos k
    rw [ed] at h1
    refine ⟨_, rfl, m, rfl, by omega, by omega, for_range (n := m.toNat) (fun i σ H' => ∃ c' v4 pre, σ = [some (.int c'), some (.int m), some (.int l), some (.ref p), v4, none] ∧ i ≤ m.toNat ∧ pre.length = i ∧ pre ++ bigGo l (m.toNat - i) c' = bigGo l m.toNat c ∧ Same H H' ∧ Li H' p pre) ⟨c, none, [], rfl, Nat.zero_le _, rfl, rfl, same_new np, upd_same⟩ ?_ ?_⟩
    · rintro i σ H1 hi ⟨c', v4, pre, rfl, _, hp, he, hs, hL⟩
      refine ⟨_, rfl, .inl ⟨rfl, _, SqL.of hL⟩, _, rfl, .inl ⟨_, rfl, _, rfl, _, _, rfl, rfl, hl, _, _, _, rfl, rfl, hL, szl (by rw [List.length_map]; omega), ?_⟩⟩
      refine ⟨_, rfl, _, rfl, _, _, rfl, rfl, ⟨hl, by omega⟩, ?_⟩
      refine ⟨c' / l, _, pre ++ [c' % l], rfl, by omega, by rw [List.length_append, hp]; rfl, ?_, same_mut hs np, li_push⟩
      rw [← he, List.append_assoc, show m.toNat - i = (m.toNat - (i + 1)) + 1 by omega]
      rfl
    · rintro σ H1 ⟨c', v4, pre, rfl, _, hp, he, hs, hL⟩
      refine ⟨_, rfl, h1 p _ hs np ?_⟩
      rw [← he, Nat.sub_self]
      show Li _ _ (pre ++ [])
      rw [List.append_nil]
      exact hL
  · have k : ¬ 10 ^ 18 ≤ c := k
    have ed : draws c m.toNat l = mixGo l m.toNat 0 ((c * 48271 + 12345) % 2147483647) := if_neg k
    rw [ed] at h1
    refine ⟨_, rfl, _, _, rfl, rfl, .inr ⟨by decide, by decide⟩, _, _, rfl, rfl, .inl ⟨_, rfl, _, _, rfl, rfl, by show (0 : Int) < _; decide, ?_⟩⟩
    refine ⟨_, rfl, m, rfl, by omega, by omega, for_range (n := m.toNat) (fun i σ H' => ∃ x v4 pre, σ = [some (.int c), some (.int m), some (.int l), some (.ref p), v4, some (.int x)] ∧ i ≤ m.toNat ∧ pre.length = i ∧ pre ++ mixGo l (m.toNat - i) (0 + (i : Int)) x = mixGo l m.toNat 0 ((c * 48271 + 12345) % 2147483647) ∧ Same H H' ∧ Li H' p pre) ⟨_, none, [], rfl, Nat.zero_le _, rfl, rfl, same_new np, upd_same⟩ ?_ ?_⟩
    · rintro i σ H1 hi ⟨x, v4, pre, rfl, _, hp, he, hs, hL⟩
      refine ⟨_, rfl, _, _, rfl, rfl, .inr ⟨by decide, by decide⟩, _, rfl, _, _, rfl, rfl, .inl ⟨by decide, by decide⟩, _, _, rfl, rfl, .inl ⟨_, rfl, _, _, rfl, rfl, by show (0 : Int) < _; decide, ?_⟩⟩
      refine ⟨_, rfl, .inl ⟨rfl, _, SqL.of hL⟩, _, rfl, _, _, rfl, rfl, ⟨by decide, by decide⟩, _, rfl, _, _, rfl, rfl, hl, _, _, _, rfl, rfl, hL, szl (by rw [List.length_map]; omega), ?_⟩
      refine ⟨_, _, pre ++ [((x * 16807 + 7919 * (0 + (i : Int))) % 2147483647) / 64 % l], rfl, by omega, by rw [List.length_append, hp]; rfl, ?_, same_mut hs np, li_push⟩
      rw [← he, List.append_assoc, show m.toNat - i = (m.toNat - (i + 1)) + 1 by omega, show (0 + ((i + 1 : Nat) : Int)) = 0 + (i : Int) + 1 by omega]
      rfl
    · rintro σ H1 ⟨x, v4, pre, rfl, _, hp, he, hs, hL⟩
      refine ⟨_, rfl, h1 p _ hs np ?_⟩
      rw [← he, Nat.sub_self]
      show Li _ _ (pre ++ [])
      rw [List.append_nil]
      exact hL
def blk (c : Int) (m : Nat) : List Int := (draws c m 997).map (· % 256)
theorem blk_len (c : Int) (m : Nat) : (blk c m).length = m := by
  unfold blk
  rw [List.length_map, draws_len]
theorem blk_mem (c : Int) (m : Nat) : ∀ d ∈ blk c m, 0 ≤ d ∧ d < 256 := by
  intro d h
  obtain ⟨e, _, rfl⟩ := List.mem_map.mp h
  exact ⟨Int.emod_nonneg _ (by decide), Int.emod_lt_of_pos _ (by decide)⟩
def sp__law_block (T : Env K mg) : Sp := fun vs H Q E => ∃ c m : Int, vs = [.int c, .int m] ∧ 0 ≤ m ∧ m ≤ 100000 ∧ ∀ p H', Same H H' → H p = none → Li H' p (blk c m.toNat) → Q (.ref p) H'
theorem ok__law_block (T : Env K mg) : FnOk P w K mg base (L2.CX P w) 2 T.a__law_block T.d__law_block ["cell", "many"] (sp__law_block T) := by
  refine T.F__law_block.okX sc__law_block (fun vs H Q E h => by obtain ⟨_, _, rfl, _⟩ := h; rfl) (fun cdv A outer s H vs Q E hr h => ?_)
  obtain ⟨c, m, rfl, hm, hm2, h1⟩ := h
  have hu64 := hu64_of hr
  have G__law_draws := ok__law_draws (P := P) (w := w) (base := base) T
  refine ⟨_, (pss_one (ps_ret (pe_lc (own := [("number", 2)]) (by rfl) sc__law_block.nd (pi_list (pe_call G__law_draws (hr.mono (by decide)) rfl T.g__law_draws T.F__law_draws.kp T.b__law_draws .nil passL (pa_cons (pv 0) (pa_cons (pv 1) (pa_cons pe_int pa_nil))))) (blkOk_by (own := [("number", 2)]) (N := ["cell", "many", "number"]) (sc := defScope s__law_block) (by decide +kernel)) (fun _ _ _ _ _ => (pg_name (i := 2) sc__law_block.nd rfl (Or.inl rfl))) (fun _ _ _ _ _ => pts_nil) (fun _ _ _ _ _ => (pe_op op_mod (pe_callTy call_int1 (by rfl) T.z_int (by decide +kernel) (pa_cons (pv 2) pa_nil)) pe_int))))), ?_⟩
  refine ⟨_, rfl, _, rfl, c, m, 997, rfl, hm, hm2, by decide, by decide, fun p H1 s1 np hL => ?_⟩
  have hlen := draws_len c m.toNat 997
  refine ⟨p, rfl, ⟨_, SqL.of hL⟩, fun D hD => lc_list (K := K) (a := p) (xs := (draws c m.toNat 997).map V.int) (fun i H' => Same H1 H' ∧ Li H' D ((draws c m.toNat 997).take i |>.map (· % 256))) ⟨same_new hD, upd_same⟩ (fun i H' _ h => SqL.of (h.1 _ _ hL)) ?_ ?_⟩
  · rintro i x H' hx ⟨hs, hl⟩
    obtain ⟨n, hn, rfl⟩ := mem_int hx
    have hi : i < (draws c m.toNat 997).length := (List.getElem?_eq_some_iff.mp hn).1
    refine ⟨rfl, yes_if ?_⟩
    refine ⟨_, rfl, .inl ⟨_, rfl, _, _, rfl, rfl, by show (0 : Int) < _; decide, ?_⟩⟩
    refine ⟨_, hl, szl (by rw [List.length_map, List.length_map, List.length_take]; omega), same_mut hs hD, ?_⟩
    rw [take_succ hn, List.map_append]
    exact li_push
  · rintro H' ⟨hs, hl⟩
    rw [List.length_map, List.take_length] at hl
    exact h1 D H' (s1.trans hs) (s1.free hD) hl

--PART /work/steering/wip/parts/seals.lean
/-! ### checksums -/
def ckStep (t b : Int) : Int := (31 * t + b + 1) % 16000057
def ck (ns : List Int) : Int := ns.foldl ckStep 7
theorem ckStep_lt (t b : Int) : 0 ≤ ckStep t b ∧ ckStep t b < 16000057 := ⟨Int.emod_nonneg _ (by decide), Int.emod_lt_of_pos _ (by decide)⟩
theorem fold_lt : ∀ (ns : List Int) (t : Int), 0 ≤ t ∧ t < 16000057 → 0 ≤ ns.foldl ckStep t ∧ ns.foldl ckStep t < 16000057
  | [], _, h => h
  | n :: r, t, _ => fold_lt r _ (ckStep_lt t n)
theorem ck_lt (ns : List Int) : 0 ≤ ck ns ∧ ck ns < 16000057 := fold_lt ns 7 ⟨by decide, by decide⟩
theorem fold_inj : ∀ (ns : List Int) (t u : Int), 0 ≤ t ∧ t < 16000057 → 0 ≤ u ∧ u < 16000057 → ns.foldl ckStep t = ns.foldl ckStep u → t = u
  | [], _, _, _, _, h => h
  | n :: r, t, u, ht, hu, h => by
    have e := fold_inj r _ _ (ckStep_lt t n) (ckStep_lt u n) h
    unfold ckStep at e
    omega
def ckb (ns : List Int) : List Int := [ck ns / 65536, ck ns / 256 % 256, ck ns % 256]
theorem ckb_mem (ns : List Int) : ∀ b ∈ ckb ns, 0 ≤ b ∧ b < 256 := by
  intro b h
  have := ck_lt ns
  simp [ckb] at h
  rcases h with rfl | rfl | rfl <;> omega
theorem ckb_inj {ns ms : List Int} (h : ckb ns = ckb ms) : ck ns = ck ms := by
  have h1 := ck_lt ns
  have h2 := ck_lt ms
  simp [ckb] at h
  omega
def sealed (ns : List Int) : List Int := ns ++ ckb ns
theorem sealed_len (ns : List Int) : (sealed ns).length = ns.length + 3 := by simp [sealed, ckb]
theorem sealed_mem {ns : List Int} (h : ∀ b ∈ ns, 0 ≤ b ∧ b < 256) : ∀ b ∈ sealed ns, 0 ≤ b ∧ b < 256 := by
  intro b hb
  rcases List.mem_append.mp hb with e | e
  · exact h b e
  · exact ckb_mem ns b e
/-- what open_seal takes -/
def openOk (ns : List Int) : Prop := ns.drop (ns.length - 3) = ckb (ns.take (ns.length - 3))
theorem take_sealed (ns : List Int) : (sealed ns).take ((sealed ns).length - 3) = ns := by
  rw [sealed_len, Nat.add_sub_cancel]
  exact List.take_left' rfl
theorem drop_sealed (ns : List Int) : (sealed ns).drop ((sealed ns).length - 3) = ckb ns := by
  rw [sealed_len, Nat.add_sub_cancel]
  exact List.drop_left' rfl
theorem open_sealed (ns : List Int) : openOk (sealed ns) := by
  unfold openOk
  rw [take_sealed, drop_sealed]
theorem sealed_of_open {ns : List Int} (h : openOk ns) : sealed (ns.take (ns.length - 3)) = ns := by
  unfold sealed
  rw [← h, List.take_append_drop]
/-- one byte of a sealed block replaced by another: it is opened no more -/
theorem spoilt_not (ns : List Int) (i : Nat) (x : Int) (hi : i < (sealed ns).length) (hne : (sealed ns)[i]? ≠ some x)
    (hb : ∀ b ∈ ns, 0 ≤ b ∧ b < 256) (hx : 0 ≤ x ∧ x < 256) : ¬ openOk ((sealed ns).set i x) := by
  intro h
  unfold openOk at h
  rw [List.length_set, sealed_len, Nat.add_sub_cancel] at h
  by_cases c : i < ns.length
  · have e1 : ((sealed ns).set i x).take ns.length = ns.set i x := by
      unfold sealed
      rw [List.set_append_left _ _ c]
      exact List.take_left' (by rw [List.length_set])
    have e2 : ((sealed ns).set i x).drop ns.length = ckb ns := by
      unfold sealed
      rw [List.set_append_left _ _ c]
      exact List.drop_left' (by rw [List.length_set])
    rw [e1, e2] at h
    have e := ckb_inj h
    have hs : ns = ns.take i ++ ns[i] :: ns.drop (i + 1) := by rw [List.getElem_cons_drop, List.take_append_drop]
    have hs2 : ns.set i x = ns.take i ++ x :: ns.drop (i + 1) := by rw [List.set_eq_take_append_cons_drop, if_pos c]
    unfold ck at e
    rw [hs2] at e
    rw [show ns.foldl ckStep 7 = (ns.take i ++ ns[i] :: ns.drop (i + 1)).foldl ckStep 7 from congrArg (List.foldl ckStep 7) hs] at e
    rw [List.foldl_append, List.foldl_append, List.foldl_cons, List.foldl_cons] at e
    have e3 := fold_inj _ _ _ (ckStep_lt _ _) (ckStep_lt _ _) e
    have hne' : ns[i] ≠ x := fun q => hne (by
      unfold sealed
      rw [List.getElem?_append_left c, List.getElem?_eq_getElem c, q])
    have b1 := hb ns[i] (List.getElem_mem c)
    unfold ckStep at e3
    omega
  · rw [sealed_len] at hi
    have e1 : ((sealed ns).set i x).take ns.length = ns := by
      unfold sealed
      rw [List.set_append_right _ _ (by omega)]
      exact List.take_left' rfl
    have e2 : ((sealed ns).set i x).drop ns.length = (ckb ns).set (i - ns.length) x := by
      unfold sealed
      rw [List.set_append_right _ _ (by omega)]
      exact List.drop_left' rfl
    rw [e1, e2] at h
    have hl : (ckb ns).length = 3 := rfl
    have g : ((ckb ns).set (i - ns.length) x)[i - ns.length]? = some x := List.getElem?_set_self (by omega)
    rw [h] at g
    apply hne
    unfold sealed
    rw [List.getElem?_append_right (by omega)]
    exact g
def sp_checksum (T : Env K mg) : Sp := fun vs H Q E => ∃ (a : Addr) (ns : List Int), vs = [.ref a] ∧ SqL K H a (ns.map V.int) ∧ Q (.int (ck ns)) H
theorem ok_checksum (T : Env K mg) : FnOk P w K mg base (L2.CX P w) 1 T.a_checksum T.d_checksum ["block"] (sp_checksum T) := by
  refine T.F_checksum.okX sc_checksum (fun vs H Q E h => by obtain ⟨_, _, rfl, _⟩ := h; rfl) (fun cdv A outer s H vs Q E hr h => ?_)
  obtain ⟨a, ns, rfl, hS, h1⟩ := h
  refine ⟨_, (pss_cons (ps_set (i := 1) sc_checksum.nd rfl (Or.inl rfl) pe_int)
      (pss_cons (ps_for (passes_of rfl) rfl (pi_list (pv 0)) (pg_name (i := 2) sc_checksum.nd rfl (Or.inl rfl)) (pss_one (ps_set (i := 1) sc_checksum.nd rfl (Or.inl rfl) (pe_op op_mod (pe_op op_add (pe_op op_add (pe_op op_mul pe_int (pv 1)) (pv 2)) pe_int) pe_int))))
      (pss_one (ps_ret (pv 1))))), ?_⟩
  refine ⟨_, rfl, a, rfl, ⟨_, hS⟩, for_list (K := K) (a := a) (xs := ns.map V.int) (fun i σ H' => ∃ v, σ = [some (.ref a), some (.int ((ns.take i).foldl ckStep 7)), v] ∧ H' = H) ⟨none, rfl, rfl⟩ (fun i σ H' _ ⟨_, _, e⟩ => by rw [e]; exact hS) ?_ ?_⟩
  · rintro i y σ H' hi ⟨v, rfl, rfl⟩
    obtain ⟨n, hn, rfl⟩ := mem_int hi
    refine ⟨_, rfl, _, _, rfl, rfl, .inl ⟨by decide, by decide⟩, _, rfl, _, _, rfl, rfl, _, _, rfl, rfl, _, _, rfl, rfl, by show (0 : Int) < _; decide, ?_⟩
    refine ⟨some (.int n), ?_, rfl⟩
    rw [take_succ hn, List.foldl_append]
    rfl
  · rintro σ H' ⟨v, rfl, rfl⟩
    rw [List.length_map, List.take_length]
    exact ⟨_, rfl, h1⟩
def sp__checksum_bytes (T : Env K mg) : Sp := fun vs H Q E => ∃ (a : Addr) (ns : List Int), vs = [.ref a] ∧ SqL K H a (ns.map V.int) ∧ ∀ p H', Same H H' → H p = none → Li H' p (ckb ns) → Q (.ref p) H'
theorem ok__checksum_bytes (T : Env K mg) : FnOk P w K mg base (L2.CX P w) 2 T.a__checksum_bytes T.d__checksum_bytes ["block"] (sp__checksum_bytes T) := by
  refine T.F__checksum_bytes.okX sc__checksum_bytes (fun vs H Q E h => by obtain ⟨_, _, rfl, _⟩ := h; rfl) (fun cdv A outer s H vs Q E hr h => ?_)
  obtain ⟨a, ns, rfl, hS, h1⟩ := h
  have hu64 := hu64_of hr
  have G_checksum := ok_checksum (P := P) (w := w) (base := base) T
  refine ⟨_, (pss_cons (ps_set (i := 1) sc__checksum_bytes.nd rfl (Or.inl rfl) (pe_call G_checksum (hr.mono (by decide)) rfl T.g_checksum T.F_checksum.kp T.b_checksum .nil passL (pa_cons (pv 0) pa_nil)))
      (pss_one (ps_ret (pe_lst (pa_cons (pe_op op_fdiv (pv 1) pe_int) (pa_cons (pe_op op_mod (pe_op op_fdiv (pv 1) pe_int) pe_int) (pa_cons (pe_op op_mod (pv 1) pe_int) pa_nil))))))), ?_⟩
  refine ⟨_, rfl, a, ns, rfl, hS, ?_⟩
  refine ⟨_, rfl, _, _, rfl, rfl, ⟨by decide, by decide⟩, _, rfl, _, _, rfl, rfl, ⟨by decide, by decide⟩, _, _, rfl, rfl, by show (0 : Int) < _; decide, _, rfl, _, _, rfl, rfl, by show (0 : Int) < _; decide, (by show 3 ≤ sizeLine; decide), fun p np => ?_⟩
  exact h1 p _ (same_new np) np upd_same
def sp_seal (T : Env K mg) : Sp := fun vs H Q E => ∃ (a : Addr) (ns : List Int), vs = [.ref a] ∧ Li H a ns ∧ ns.length ≤ 500000 ∧ ∀ p H', Same H H' → H p = none → Li H' p (sealed ns) → Q (.ref p) H'
theorem ok_seal (T : Env K mg) : FnOk P w K mg base (L2.CX P w) 3 T.a_seal T.d_seal ["block"] (sp_seal T) := by
  refine T.F_seal.okX sc_seal (fun vs H Q E h => by obtain ⟨_, _, rfl, _⟩ := h; rfl) (fun cdv A outer s H vs Q E hr h => ?_)
  obtain ⟨a, ns, rfl, hL, hlen, h1⟩ := h
  have hu64 := hu64_of hr
  have G__checksum_bytes := ok__checksum_bytes (P := P) (w := w) (base := base) T
  refine ⟨_, (pss_one (ps_ret (pe_op op_cat (pv 0) (pe_call G__checksum_bytes (hr.mono (by decide)) rfl T.g__checksum_bytes T.F__checksum_bytes.kp T.b__checksum_bytes .nil passL (pa_cons (pv 0) pa_nil))))), ?_⟩
  refine ⟨_, rfl, _, rfl, a, ns, rfl, SqL.of hL, fun p H1 s1 np hp => ?_⟩
  refine ⟨a, p, _, _, rfl, rfl, s1 _ _ hL, hp, szle (by rw [List.length_map]; show _ + 3 ≤ _; omega), fun q nq => ?_⟩
  exact h1 q _ (s1.trans (same_new nq)) (s1.free nq) (by show upd _ _ _ _ = _; rw [upd_same, ← List.map_append]; rfl)
def sp_open_seal (T : Env K mg) : Sp := fun vs H Q E => ∃ (a : Addr) (ns : List Int), vs = [.ref a] ∧ Li H a ns ∧ ns.length ≤ 1000000 ∧ (ns.length < 3 → E (.ref T.c_BadBytes) none H) ∧
  (3 ≤ ns.length → openOk ns → ∀ p H', Same H H' → H p = none → Li H' p (ns.take (ns.length - 3)) → Q (.ref p) H') ∧ (3 ≤ ns.length → ¬ openOk ns → ∀ H', Same H H' → E (.ref T.c_BadSeal) none H')
theorem ok_open_seal (T : Env K mg) : FnOk P w K mg base (L2.CX P w) 3 T.a_open_seal T.d_open_seal ["block"] (sp_open_seal T) := by
  refine T.F_open_seal.okX sc_open_seal (fun vs H Q E h => by obtain ⟨_, _, rfl, _⟩ := h; rfl) (fun cdv A outer s H vs Q E hr h => ?_)
  obtain ⟨a, ns, rfl, hL, hlen, h1, h2, h3⟩ := h
  have hu64 := hu64_of hr
  have G__checksum_bytes := ok__checksum_bytes (P := P) (w := w) (base := base) T
  refine ⟨_, (pss_cons (ps_if (pt_cmpR op_lt (pe_callB call_len (by rfl) T.z_len (by decide +kernel) (pa_cons (pv 0) pa_nil)) pe_int (nomark _)) (pss_one (ps_raise rfl (takes_of rfl rfl rfl rfl) (pmk_own PySem.F.excBase_ValueError T.e_BadBytes.xP T.e_BadBytes.gC T.e_BadBytes.kC (raises_own T.e_BadBytes.bP T.e_BadBytes.tP) (by exact rfl)))) pss_nil)
      (pss_cons (ps_set (i := 1) sc_open_seal.nd rfl (Or.inl rfl) (pe_slice sl_list (pv 0) po_none (po_some (pe_un un_neg pe_int))))
      (pss_cons (ps_if (pt_cmpR (op_neD hu64) (pe_slice sl_list (pv 0) (po_some (pe_un un_neg pe_int)) po_none) (pe_call G__checksum_bytes (hr.mono (by decide)) rfl T.g__checksum_bytes T.F__checksum_bytes.kp T.b__checksum_bytes .nil passL (pa_cons (pv 1) pa_nil)) (nomark _)) (pss_one (ps_raise rfl (takes_of rfl rfl rfl rfl) (pmk_own PySem.F.excBase_ValueError T.e_BadSeal.xP T.e_BadSeal.gC T.e_BadSeal.kC (raises_own T.e_BadSeal.bP T.e_BadSeal.tP) (by exact rfl)))) pss_nil)
      (pss_one (ps_ret (pv 1)))))), ?_⟩
  refine ⟨_, rfl, _, _, rfl, .inl ⟨_, SqL.of hL, rfl⟩, _, _, rfl, rfl, _, rfl, iteD (fun c => ?_) (fun c => ?_)⟩
  · rw [List.length_map] at c
    exact h1 (by omega)
  · rw [List.length_map] at c
    refine ⟨_, rfl, _, rfl, _, rfl, a, _, rfl, SqL.of hL, fun p np => ?_⟩
    rw [show cutV (ns.map V.int) none (some (-3)) = (ns.take (ns.length - 3)).map V.int by rw [show (-3 : Int) = -((3 : Nat) : Int) from rfl, cut_ton _ 3 (by decide), List.length_map, List.map_take]]
    refine ⟨_, rfl, _, rfl, _, rfl, a, _, rfl, SqL.of (same_new np _ _ hL), fun q nq => ?_⟩
    rw [show cutV (ns.map V.int) (some (-3)) none = (ns.drop (ns.length - 3)).map V.int by rw [show (-3 : Int) = -((3 : Nat) : Int) from rfl, cut_fromn _ 3 (by decide), List.length_map, List.map_drop]]
    have hpL := same_new (o := .lst ((ns.drop (ns.length - 3)).map V.int)) nq _ _ (show upd H p _ p = _ from upd_same)
    refine ⟨_, rfl, p, _, rfl, SqL.of hpL, fun r H3 s3 nr hr3 => ?_⟩
    refine ⟨_, _, dp_ints (SqL.of (s3 _ _ upd_same)), dp_ints (SqL.of hr3), shaped_dInts _, shaped_dInts _, _, rfl, ?_⟩
    rw [eqv_dInts]
    refine iteN (fun k => ?_) (fun k => ?_)
    · exact h3 (by omega) k _ (((same_new np).trans (same_new nq)).trans s3)
    · exact ⟨_, rfl, h2 (by omega) k p _ (((same_new np).trans (same_new nq)).trans s3) np (s3 _ _ hpL)⟩

--PART /work/steering/wip/parts/k05.lean
def sp__law_sum (T : Env K mg) : Sp := fun vs H Q E => ∃ (a : Addr) (ns : List Int), vs = [.ref a] ∧ SqL K H a (ns.map V.int) ∧ Q (.int (ck ns)) H
theorem ok__law_sum (T : Env K mg) : FnOk P w K mg base (L2.CX P w) 1 T.a__law_sum T.d__law_sum ["block"] (sp__law_sum T) := by
  refine T.F__law_sum.okX sc__law_sum (fun vs H Q E h => by obtain ⟨_, _, rfl, _⟩ := h; rfl) (fun cdv A outer s H vs Q E hr h => ?_)
  obtain ⟨a, ns, rfl, hS, h1⟩ := h
  refine ⟨_, (pss_cons (ps_set (i := 1) sc__law_sum.nd rfl (Or.inl rfl) pe_int)
      (pss_cons (ps_for (passes_of rfl) rfl (pi_list (pv 0)) (pg_name (i := 2) sc__law_sum.nd rfl (Or.inl rfl)) (pss_one (ps_set (i := 1) sc__law_sum.nd rfl (Or.inl rfl) (pe_op op_mod (pe_callTy call_int1 (by rfl) T.z_int (by decide +kernel) (pa_cons (pe_op op_add (pe_op op_add (pe_op op_mul pe_int (pv 1)) (pv 2)) pe_int) pa_nil)) pe_int))))
      (pss_one (ps_ret (pv 1))))), ?_⟩
  refine ⟨_, rfl, a, rfl, ⟨_, hS⟩, for_list (K := K) (a := a) (xs := ns.map V.int) (fun i σ H' => ∃ v, σ = [some (.ref a), some (.int ((ns.take i).foldl ckStep 7)), v] ∧ H' = H) ⟨none, rfl, rfl⟩ (fun i σ H' _ ⟨_, _, e⟩ => by rw [e]; exact hS) ?_ ?_⟩
  · rintro i y σ H' hi ⟨v, rfl, rfl⟩
    obtain ⟨n, hn, rfl⟩ := mem_int hi
    refine ⟨_, rfl, _, _, rfl, rfl, .inl ⟨by decide, by decide⟩, _, rfl, _, _, rfl, rfl, _, _, rfl, rfl, .inl ⟨_, rfl, _, _, rfl, rfl, by show (0 : Int) < _; decide, ?_⟩⟩
    refine ⟨some (.int n), ?_, rfl⟩
    rw [take_succ hn, List.foldl_append]
    rfl
  · rintro σ H' ⟨v, rfl, rfl⟩
    rw [List.length_map, List.take_length]
    exact ⟨_, rfl, h1⟩
def sp__law_sealed (T : Env K mg) : Sp := fun vs H Q E => ∃ (a : Addr) (ns : List Int), vs = [.ref a] ∧ Li H a ns ∧ ns.length ≤ 500000 ∧ ∀ p H', Same H H' → H p = none → Li H' p (sealed ns) → Q (.ref p) H'
theorem ok__law_sealed (T : Env K mg) : FnOk P w K mg base (L2.CX P w) 2 T.a__law_sealed T.d__law_sealed ["block"] (sp__law_sealed T) := by
  refine T.F__law_sealed.okX sc__law_sealed (fun vs H Q E h => by obtain ⟨_, _, rfl, _⟩ := h; rfl) (fun cdv A outer s H vs Q E hr h => ?_)
  obtain ⟨a, ns, rfl, hL, hlen, h1⟩ := h
  have hu64 := hu64_of hr
  have G__law_sum := ok__law_sum (P := P) (w := w) (base := base) T
  refine ⟨_, (pss_cons (ps_set (i := 1) sc__law_sealed.nd rfl (Or.inl rfl) (pe_call G__law_sum (hr.mono (by decide)) rfl T.g__law_sum T.F__law_sum.kp T.b__law_sum .nil passL (pa_cons (pv 0) pa_nil)))
      (pss_one (ps_ret (pe_op op_cat (pe_callTy call_list_of (by rfl) T.z_list (by decide +kernel) (pa_cons (pv 0) pa_nil)) (pe_lst (pa_cons (pe_op op_fdiv (pv 1) pe_int) (pa_cons (pe_op op_mod (pe_op op_fdiv (pv 1) pe_int) pe_int) (pa_cons (pe_op op_mod (pe_callTy call_int1 (by rfl) T.z_int (by decide +kernel) (pa_cons (pv 1) pa_nil)) pe_int) pa_nil)))))))), ?_⟩
  refine ⟨_, rfl, a, ns, rfl, SqL.of hL, ?_⟩
  refine ⟨_, rfl, a, _, rfl, .inl (SqL.of hL), fun l nl => ?_⟩
  refine ⟨_, rfl, _, _, rfl, rfl, ⟨by decide, by decide⟩, _, rfl, _, _, rfl, rfl, ⟨by decide, by decide⟩, _, _, rfl, rfl, by show (0 : Int) < _; decide, _, rfl, .inl ⟨_, rfl, _, _, rfl, rfl, by show (0 : Int) < _; decide, (by show 3 ≤ sizeLine; decide), fun p np => ?_⟩⟩
  refine ⟨l, p, _, _, rfl, rfl, same_new np _ _ upd_same, upd_same, szle (by rw [List.length_map]; show _ + 3 ≤ _; omega), fun q nq => ?_⟩
  exact h1 q _ (((same_new nl).trans (same_new np)).trans (same_new nq)) (((same_new nl).trans (same_new np)).free nq) (by show upd _ _ _ _ = _; rw [upd_same]; unfold sealed; rw [List.map_append]; rfl)
def sp__law_refused (T : Env K mg) : Sp := fun vs H Q E => ∃ (a : Addr) (ns : List Int) (b : Bool), vs = [.ref a, .bl b] ∧ Li H a ns ∧ ns.length ≤ 1000000 ∧ (b = false → ns.length < 3) ∧ (b = true → 3 ≤ ns.length ∧ ¬ openOk ns) ∧ ∀ H', Same H H' → Q (.bl true) H'
theorem ok__law_refused (T : Env K mg) : FnOk P w K mg base (L2.CX P w) 5 T.a__law_refused T.d__law_refused ["block", "sealed"] (sp__law_refused T) := by
  refine T.F__law_refused.okX sc__law_refused (fun vs H Q E h => by obtain ⟨_, _, _, rfl, _⟩ := h; rfl) (fun cdv A outer s H vs Q E hr h => ?_)
  obtain ⟨a, ns, b, rfl, hL, hlen, hf, ht, h1⟩ := h
  have hu64 := hu64_of hr
  have G_open_seal := ok_open_seal (P := P) (w := w) (base := base) T
  refine ⟨_, (pss_cons (ps_try_as (i := 2) rfl rfl sc__law_refused.nd rfl rfl ⟨rfl, by decide, .inl T.e_MeridianError.gC⟩ takes0 (fun W pn xe tk po => (pss_one (ps_expr (pe_callS G_open_seal (hr.mono (by decide)) rfl T.g_open_seal T.F_open_seal.kp T.b_open_seal (fun σ => passAt tk σ) (pa_cons (pv 0) pa_nil))))) (fun a oe cls d pn hz hf => (pss_one (ps_ret (pe_and (pe_callB (call_isG hz hf) (by rfl) T.z_isinstance (by decide +kernel) (pa_cons (pv 2) (pa_cons (pe_glob (v := .ref T.c_BadBytes) rfl T.e_BadBytes.gC rfl) pa_nil))) (pe_one (pe_cmpR op_eq (pe_callB (call_isG hz hf) (by rfl) T.z_isinstance (by decide +kernel) (pa_cons (pv 2) (pa_cons (pe_glob (v := .ref T.c_BadSeal) rfl T.e_BadSeal.gC rfl) pa_nil))) (pv 1) (nomark _))))))))
      (pss_one (ps_ret pe_bl))), ?_⟩
  refine ⟨_, rfl, a, ns, rfl, hL, hlen, fun c => ?_, fun c k => ?_, fun c k H1 s1 => ?_⟩
  · have eb : b = false := by
      cases b with
      | false => rfl
      | true => have := (ht rfl).1; omega
    subst eb
    refine ⟨true, T.u_BadBytes_MeridianError, fun _ x _ => ?_, fun q => Bool.noConfusion q⟩
    refine ⟨_, rfl, T.c_BadBytes, true, rfl, rfl, T.e_BadBytes.cP, .inl ⟨_, _, rfl, .own _, T.q_BadBytes_BadBytes, _, rfl, iteT ?_⟩⟩
    exact ⟨_, rfl, T.c_BadBytes, false, rfl, rfl, T.e_BadBytes.cP, .inl ⟨_, _, rfl, .own _, T.q_BadBytes_BadSeal, _, rfl, rfl, h1 _ (Same.refl H)⟩⟩
  · exfalso
    cases b with
    | false => have := hf rfl; omega
    | true => exact (ht rfl).2 k
  · have eb : b = true := by
      cases b with
      | false => have := hf rfl; omega
      | true => rfl
    subst eb
    refine ⟨true, T.u_BadSeal_MeridianError, fun _ x _ => ?_, fun q => Bool.noConfusion q⟩
    refine ⟨_, rfl, T.c_BadSeal, true, rfl, rfl, T.e_BadSeal.cP, .inl ⟨_, _, rfl, .own _, T.q_BadSeal_BadBytes, _, rfl, iteT ?_⟩⟩
    exact ⟨_, rfl, T.c_BadSeal, true, rfl, rfl, T.e_BadSeal.cP, .inl ⟨_, _, rfl, .own _, T.q_BadSeal_BadSeal, _, rfl, rfl, h1 _ s1⟩⟩
def spLaw (K : PySem.W.Frag) : Sp := fun vs H Q _ => ∃ (a : Addr) (ns : List Int), vs = [.ref a] ∧ SqL K H a (ns.map V.int) ∧ ns.length ≤ 63 ∧ ∀ H', Q (.bl true) H'
def sp_law (T : Env K mg) : Sp := spLaw K
theorem ok_law (T : Env K mg) : FnOk P w K mg base CX0 6 T.a_law T.d_law ["script"] (sp_law T) := by
  refine T.F_law.ok sc_law (fun vs H Q E h => by obtain ⟨_, _, rfl, _⟩ := h; rfl) (fun cdv A outer s H vs Q E hr h => ?_)
  obtain ⟨a, ns, rfl, hS, hlen, h1⟩ := h
  have hu64 := hu64_of hr
  have G__law_block := ok__law_block (P := P) (w := w) (base := base) T
  have G_checksum := ok_checksum (P := P) (w := w) (base := base) T
  have G_seal := ok_seal (P := P) (w := w) (base := base) T
  have G__law_cell := ok__law_cell (P := P) (w := w) (base := base) T
  have G_open_seal := ok_open_seal (P := P) (w := w) (base := base) T
  have G__law_refused := ok__law_refused (P := P) (w := w) (base := base) T
  have G__law_is_int := ok__law_is_int (P := P) (w := w) (base := base) T
  have G__law_sum := ok__law_sum (P := P) (w := w) (base := base) T
  have G__law_sealed := ok__law_sealed (P := P) (w := w) (base := base) T
  refine ⟨_, (pss_cons (ps_set (i := 1) sc_law.nd rfl (Or.inl rfl) (pe_ix ix_list (pe_lst (pa_cons (pe_op op_mod (pe_callTy call_int1 (by rfl) T.z_int (by decide +kernel) (pa_cons (pe_call G__law_cell (hr.mono (by decide)) rfl T.g__law_cell T.F__law_cell.kp T.b__law_cell .nil passL (pa_cons (pv 0) (pa_cons pe_int pa_nil))) pa_nil)) pe_int) (pa_cons pe_int pa_nil))) (pe_callTy call_int1 (by rfl) T.z_int (by decide +kernel) (pa_cons (pe_cmpR op_eq (pe_op op_mod (pe_callTy call_int1 (by rfl) T.z_int (by decide +kernel) (pa_cons (pe_call G__law_cell (hr.mono (by decide)) rfl T.g__law_cell T.F__law_cell.kp T.b__law_cell .nil passL (pa_cons (pv 0) (pa_cons pe_int pa_nil))) pa_nil)) pe_int) pe_int (nomark _)) pa_nil)) (fun _ _ => rfl)))
      (pss_cons (ps_set (i := 2) sc_law.nd rfl (Or.inl rfl) (pe_call G__law_block (hr.mono (by decide)) rfl T.g__law_block T.F__law_block.kp T.b__law_block .nil passL (pa_cons (pe_call G__law_cell (hr.mono (by decide)) rfl T.g__law_cell T.F__law_cell.kp T.b__law_cell .nil passL (pa_cons (pv 0) (pa_cons pe_int pa_nil))) (pa_cons (pv 1) pa_nil))))
      (pss_cons (ps_set (i := 3) sc_law.nd rfl (Or.inl rfl) (pe_callTy call_list_of (by rfl) T.z_list (by decide +kernel) (pa_cons (pv 2) pa_nil)))
      (pss_cons (ps_set (i := 4) sc_law.nd rfl (Or.inl rfl) (pe_call G_checksum (hr.mono (by decide)) rfl T.g_checksum T.F_checksum.kp T.b_checksum .nil passL (pa_cons (pv 3) pa_nil)))
      (pss_cons (ps_set (i := 5) sc_law.nd rfl (Or.inl rfl) (pe_call G_seal (hr.mono (by decide)) rfl T.g_seal T.F_seal.kp T.b_seal .nil passL (pa_cons (pv 3) pa_nil)))
      (pss_cons (ps_if (PW.pt (pw_or (pt_not (pt_val (pe_call G__law_is_int (hr.mono (by decide)) rfl T.g__law_is_int T.F__law_is_int.kp T.b__law_is_int .nil passL (pa_cons (pv 4) pa_nil)))) (pw_or (pt_cmpR op_ne (pv 4) (pe_call G__law_sum (hr.mono (by decide)) rfl T.g__law_sum T.F__law_sum.kp T.b__law_sum .nil passL (pa_cons (pv 2) pa_nil)) (nomark _)) (pw_or (pt_cmpR (op_neD hu64) (pv 5) (pe_call G__law_sealed (hr.mono (by decide)) rfl T.g__law_sealed T.F__law_sealed.kp T.b__law_sealed .nil passL (pa_cons (pv 2) pa_nil)) (nomark _)) (pw_or1 (pt_cmpR (op_neD hu64) (pv 3) (pv 2) (nomark _))))))) (pss_one (ps_ret pe_bl)) pss_nil)
      (pss_cons (ps_if (pt_cmpR (op_neD hu64) (pe_call G_open_seal (hr.mono (by decide)) rfl T.g_open_seal T.F_open_seal.kp T.b_open_seal .nil passL (pa_cons (pe_callTy call_list_of (by rfl) T.z_list (by decide +kernel) (pa_cons (pv 5) pa_nil)) pa_nil)) (pv 2) (nomark _)) (pss_one (ps_ret pe_bl)) pss_nil)
      (pss_cons (ps_if (PW.pt (pw_and (pt_cmpR (op_eqD hu64) (pe_slice sl_list (pv 2) po_none (po_some pe_int)) (pv 2) (nomark _)) (pw_and1 (pt_not (pt_val (pe_call G__law_refused (hr.mono (by decide)) rfl T.g__law_refused T.F__law_refused.kp T.b__law_refused .nil passL (pa_cons (pe_callTy call_list_of (by rfl) T.z_list (by decide +kernel) (pa_cons (pv 2) pa_nil)) (pa_cons pe_bl pa_nil)))))))) (pss_one (ps_ret pe_bl)) pss_nil)
      (pss_cons (ps_for PassesOwn.never rfl (pi_range2 rfl T.z_range (pa_cons pe_int (pa_cons pe_int pa_nil))) (pg_name (i := 6) sc_law.nd rfl (Or.inl rfl)) (pss_cons (ps_set (i := 7) sc_law.nd rfl (Or.inl rfl) (pe_op op_mod (pe_op op_fdiv (pe_call G__law_cell (hr.mono (by decide)) rfl T.g__law_cell T.F__law_cell.kp T.b__law_cell .nil passL (pa_cons (pv 0) (pa_cons (pv 6) pa_nil))) pe_int) (pe_callB call_len (by rfl) T.z_len (by decide +kernel) (pa_cons (pv 5) pa_nil))))
      (pss_cons (ps_set (i := 8) sc_law.nd rfl (Or.inl rfl) (pe_callTy call_list_of (by rfl) T.z_list (by decide +kernel) (pa_cons (pv 5) pa_nil)))
      (pss_cons (ps_asg (pe_op op_mod (pe_callTy call_int1 (by rfl) T.z_int (by decide +kernel) (pa_cons (pe_op op_add (pe_op op_add (pe_ix ix_list (pv 8) (pv 7) (fun _ _ => rfl)) pe_int) (pe_op op_mod (pe_callTy call_int1 (by rfl) T.z_int (by decide +kernel) (pa_cons (pe_call G__law_cell (hr.mono (by decide)) rfl T.g__law_cell T.F__law_cell.kp T.b__law_cell .nil passL (pa_cons (pv 0) (pa_cons (pv 6) pa_nil))) pa_nil)) pe_int)) pa_nil)) pe_int) (pg_sub (pv 8) (pv 7) set_list))
      (pss_cons (ps_set (i := 9) sc_law.nd rfl (Or.inl rfl) (pe_callTy call_list_of (by rfl) T.z_list (by decide +kernel) (pa_cons (pv 8) pa_nil)))
      (pss_one (ps_if (PW.pt (pw_or (pt_not (pt_val (pe_call G__law_refused (hr.mono (by decide)) rfl T.g__law_refused T.F__law_refused.kp T.b__law_refused .nil passL (pa_cons (pv 8) (pa_cons pe_bl pa_nil))))) (pw_or1 (pt_cmpR (op_neD hu64) (pv 8) (pv 9) (nomark _))))) (pss_one (ps_ret pe_bl)) pss_nil)))))))
      (pss_cons (ps_set (i := 10) sc_law.nd rfl (Or.inl rfl) (pe_slice sl_list (pv 5) po_none (po_some (pe_un un_neg pe_int))))
      (pss_cons (ps_if (pt_cmpR op_lt (pe_callB call_len (by rfl) T.z_len (by decide +kernel) (pa_cons (pv 10) pa_nil)) pe_int (nomark _)) (pss_one (ps_ret (pe_call G__law_refused (hr.mono (by decide)) rfl T.g__law_refused T.F__law_refused.kp T.b__law_refused .nil passL (pa_cons (pv 10) (pa_cons pe_bl pa_nil))))) pss_nil)
      (pss_one (ps_ret (pe_or (pe_cmpR (op_eqD hu64) (pv 10) (pe_call G__law_sealed (hr.mono (by decide)) rfl T.g__law_sealed T.F__law_sealed.kp T.b__law_sealed .nil passL (pa_cons (pe_slice sl_list (pv 10) po_none (po_some (pe_un un_neg pe_int))) pa_nil)) (nomark _)) (pe_one (pe_call G__law_refused (hr.mono (by decide)) rfl T.g__law_refused T.F__law_refused.kp T.b__law_refused .nil passL (pa_cons (pv 10) (pa_cons pe_bl pa_nil)))))))))))))))))), ?_⟩
  -- many
  refine ⟨_, rfl, a, ns, 1, rfl, hS, by decide, .inl ⟨_, rfl, _, _, rfl, rfl, by show (0 : Int) < _; decide, (by show 2 ≤ sizeLine; decide), fun p np => ?_⟩⟩
  have s1 : Same H _ := same_new (o := .lst [.int (cell ns 1 % 10), .int 200]) np
  obtain ⟨m, hm0, hm2, hidx⟩ : ∃ m : Int, 0 ≤ m ∧ m ≤ 200 ∧ atI [V.int (cell ns 1 % 10), V.int 200] (if decide (V.int (cell ns 1 % 40) = V.int 39) = true then 1 else 0) = some (V.int m) := by
    by_cases c : decide (V.int (cell ns 1 % 40) = V.int 39) = true
    · exact ⟨200, by decide, by decide, by rw [if_pos c]; rfl⟩
    · exact ⟨cell ns 1 % 10, by omega, by omega, by rw [if_neg c]; rfl⟩
  refine ⟨_, rfl, a, ns, 1, rfl, s1.seq hS, by decide, .inl ⟨_, rfl, _, _, rfl, rfl, by show (0 : Int) < _; decide, rfl, .inr ⟨_, rfl, p, _, _, _, rfl, rfl, SqL.of upd_same, hidx, ?_⟩⟩⟩
  -- block
  refine ⟨_, rfl, a, ns, 0, rfl, s1.seq hS, by decide, _, rfl, _, m, rfl, hm0, by omega, fun pb H2 s2 nb hb => ?_⟩
  have bl := blk_len (cell ns 0) m.toNat
  have bm := blk_mem (cell ns 0) m.toNat
  generalize blk (cell ns 0) m.toNat = B at hb bl bm
  have bl2 : B.length ≤ 200 := by omega
  have sH2 := s1.trans s2
  -- given
  refine ⟨_, rfl, pb, _, rfl, .inl (SqL.of hb), fun pg ng => ?_⟩
  have s3 := same_new (o := .lst (B.map V.int)) ng
  have hg : Li (upd H2 pg (.lst (B.map V.int))) pg B := upd_same
  have hb3 := s3 _ _ hb
  generalize upd H2 pg (.lst (B.map V.int)) = H3 at s3 hg hb3
  -- total, whole
  refine ⟨_, rfl, pg, B, rfl, SqL.of hg, ?_⟩
  refine ⟨_, rfl, pg, B, rfl, hg, by omega, fun pw H4 s4 nw hw => ?_⟩
  refine ⟨_, rfl, _, rfl, _, rfl, ifF rfl ?_⟩
  refine ⟨_, rfl, _, rfl, pb, B, rfl, SqL.of (s4 _ _ hb3), rfl, _, rfl, ifF (by simp) ?_⟩
  refine ⟨_, rfl, _, rfl, pb, B, rfl, s4 _ _ hb3, by omega, fun p5 H5 s5 n5 h5 => ⟨_, _, dp_ints (SqL.of (s5 _ _ hw)), dp_ints (SqL.of h5), shaped_dInts _, shaped_dInts _, _, rfl, ifF (by rw [eqv_dInts]; simp) ?_⟩⟩
  refine ⟨_, rfl, _, rfl, _, _, dp_ints (SqL.of (s5 _ _ (s4 _ _ hg))), dp_ints (SqL.of (s5 _ _ (s4 _ _ hb3))), shaped_dInts _, shaped_dInts _, _, rfl, ifF (by rw [eqv_dInts]; simp) ?_⟩
  have hb5 := s5 _ _ (s4 _ _ hb3)
  have hw5 := s5 _ _ hw
  have sH5 := ((sH2.trans s3).trans s4).trans s5
  have sl := sealed_len B
  -- open_seal(list(whole)) != block
  refine ⟨_, rfl, pw, _, rfl, .inl (SqL.of hw5), fun p6 n6 => ⟨p6, sealed B, rfl, upd_same, by omega, fun c => absurd c (by omega), fun _ _ p7 H7 s7 n7 h7 => ?_, fun _ k => absurd (open_sealed B) k⟩⟩
  rw [take_sealed] at h7
  have s57 := (same_new (o := .lst ((sealed B).map V.int)) n6).trans s7
  have hb7 := s57 _ _ hb5
  have hw7 := s57 _ _ hw5
  have sH7 := sH5.trans s57
  refine ⟨_, rfl, _, _, dp_ints (SqL.of h7), dp_ints (SqL.of hb7), shaped_dInts _, shaped_dInts _, _, rfl, ifF (by rw [eqv_dInts]; simp) ?_⟩
  -- block[:2] == block and ..
  refine ⟨_, rfl, _, rfl, pb, _, rfl, SqL.of hb7, fun p8 n8 => ?_⟩
  rw [show cutV (B.map V.int) none (some 2) = (B.take 2).map V.int by rw [show (2 : Int) = ((2 : Nat) : Int) from rfl, cut_to, List.map_take]]
  have s8 := same_new (o := .lst ((B.take 2).map V.int)) n8
  have hb8 := s8 _ _ hb7
  have hw8 := s8 _ _ hw7
  have sH8 := sH7.trans s8
  refine ⟨_, rfl, _, _, dp_ints (SqL.of upd_same), dp_ints (SqL.of hb8), shaped_dInts _, shaped_dInts _, _, rfl, ?_⟩
  rw [eqv_dInts]
  generalize upd H7 p8 (.lst ((B.take 2).map V.int)) = H8 at hb8 hw8 sH8
  -- what follows, from any later heap
  suffices rest : ∀ H9, Same H8 H9 → _ by
    refine iteD (fun c => ?_) (fun c => ifF rfl (rest H8 (Same.refl _)))
    have hsh : B.length ≤ 2 := by
      have := congrArg List.length c
      rw [List.length_take] at this
      omega
    refine ⟨_, rfl, pb, _, rfl, .inl (SqL.of hb8), fun p9 n9 => ⟨p9, B, false, rfl, upd_same, by omega, fun _ => by omega, fun q => Bool.noConfusion q, fun H9 s9 => ⟨_, rfl, ifF rfl (rest H9 ((same_new n9).trans s9))⟩⟩⟩
  intro H9 s9
  have hb9 := s9 _ _ hb8
  have hw9 := s9 _ _ hw8
  have sH9 := sH8.trans s9
  refine ⟨2, 6, rfl, ⟨by decide, by decide, by decide, by decide⟩, for_range (n := 4) (lo := 2) (fun i σ H' => ∃ v6 v7 v8 v9, σ = [some (.ref a), some (.int m), some (.ref pb), some (.ref pg), some (.int (ck B)), some (.ref pw), v6, v7, v8, v9, none] ∧ Same H9 H') ⟨none, none, none, none, rfl, Same.refl _⟩ ?_ ?_⟩
  · rintro i σ H' hi ⟨v6, v7, v8, v9, rfl, sA⟩
    have hwA := sA _ _ hw9
    -- at
    refine ⟨_, rfl, _, rfl, a, ns, _, rfl, (sH9.trans sA).seq hS, by omega, _, _, rfl, rfl, ⟨by decide, by decide⟩, _, rfl, _, _, rfl, .inl ⟨_, SqL.of hwA, rfl⟩, _, _, rfl, rfl, ?_, ?_⟩
    · show (0 : Int) < (((sealed B).map V.int).length : Nat)
      rw [List.length_map, sl]
      omega
    rw [List.length_map]
    have c0 := cell_nn ns (2 + (i : Int))
    generalize cell ns (2 + (i : Int)) = c at c0
    obtain ⟨j, ej⟩ : ∃ j : Nat, c / 255 % ((sealed B).length : Nat) = (j : Int) := ⟨(c / 255 % ((sealed B).length : Nat)).toNat, by
      have := Int.emod_nonneg (c / 255) (b := ((sealed B).length : Nat)) (by omega)
      omega⟩
    have hj : j < (sealed B).length := by
      have := Int.emod_lt_of_pos (c / 255) (b := ((sealed B).length : Nat)) (by omega)
      omega
    -- spoilt = list(whole)
    refine ⟨_, rfl, pw, _, rfl, .inl (SqL.of hwA), fun pS nS => ?_⟩
    have sS := same_new (o := .lst ((sealed B).map V.int)) nS
    have hlS : Li (upd H' pS (.lst ((sealed B).map V.int))) pS (sealed B) := upd_same
    generalize upd H' pS (.lst ((sealed B).map V.int)) = HS at sS hlS
    have hv : (sealed B)[j]? = some (sealed B)[j] := List.getElem?_eq_getElem hj
    have hv2 := sealed_mem bm _ (List.getElem_mem hj)
    generalize (sealed B)[j] = v at hv hv2
    refine ⟨_, rfl, _, rfl, pS, _, _, .int v, rfl, rfl, SqL.of hlS, at_of ej (by rw [List.getElem?_map, hv]; rfl), _, _, rfl, rfl, _, rfl, _, rfl, a, ns, _, rfl, ((sH9.trans sA).trans sS).seq hS, by omega, .inl ⟨_, rfl, _, _, rfl, rfl, by show (0 : Int) < _; decide, _, _, rfl, rfl, .inl ⟨_, rfl, _, _, rfl, rfl, by show (0 : Int) < _; decide, ?_⟩⟩⟩
    have hx : (v + 1 + cell ns (2 + (i : Int)) % 255) % 256 ≠ v := by
      have := cell_nn ns (2 + (i : Int))
      omega
    have hx2 : 0 ≤ (v + 1 + cell ns (2 + (i : Int)) % 255) % 256 ∧ (v + 1 + cell ns (2 + (i : Int)) % 255) % 256 < 256 := by omega
    generalize hxe : (v + 1 + cell ns (2 + (i : Int)) % 255) % 256 = x at hx hx2
    refine ⟨_, rfl, _, rfl, pS, _, _, j, rfl, rfl, hlS, ?_, ?_⟩
    · rw [ej]
      unfold ixN
      rw [if_pos (by omega), List.length_map, if_pos (by omega)]
      simp
    have sX : Same H' (upd HS pS (.lst (((sealed B).set j x).map V.int))) := fun b o e => by
      rw [upd_ne (ne_of_none e nS)]
      exact sS b o e
    rw [show ((sealed B).map V.int).set j ((fun i j => V.int (i % j)) (v + 1 + cell ns (2 + (i : Int)) % 255) 256) = ((sealed B).set j x).map V.int by rw [List.map_set, ← hxe]]
    have hlX : Li (upd HS pS (.lst (((sealed B).set j x).map V.int))) pS ((sealed B).set j x) := upd_same
    generalize upd HS pS (.lst (((sealed B).set j x).map V.int)) = HX at sX hlX
    -- kept = list(spoilt)
    refine ⟨_, rfl, pS, _, rfl, .inl (SqL.of hlX), fun pK nK => ?_⟩
    have sK := same_new (o := .lst (((sealed B).set j x).map V.int)) nK
    have hlK : Li (upd HX pK (.lst (((sealed B).set j x).map V.int))) pK ((sealed B).set j x) := upd_same
    have hlX2 := sK _ _ hlX
    generalize upd HX pK (.lst (((sealed B).set j x).map V.int)) = HK at sK hlK hlX2
    have hno := spoilt_not B j x hj (by rw [hv]; simpa using fun q => hx q.symm) bm hx2
    refine ⟨_, rfl, pS, _, true, rfl, hlX2, by rw [List.length_set]; omega, fun q => Bool.noConfusion q, fun _ => ⟨by rw [List.length_set]; omega, hno⟩, fun HR sR => ⟨_, rfl, ifF rfl ?_⟩⟩
    refine ⟨_, rfl, _, rfl, _, _, dp_ints (SqL.of (sR _ _ hlX2)), dp_ints (SqL.of (sR _ _ hlK)), shaped_dInts _, shaped_dInts _, _, rfl, ifF (by rw [eqv_dInts]; simp) ?_⟩
    exact ⟨_, _, _, _, rfl, ((sA.trans sX).trans sK).trans sR⟩
  · rintro σ H' ⟨v6, v7, v8, v9, rfl, sA⟩
    have hwA := sA _ _ hw9
    refine ⟨_, rfl, _, rfl, _, rfl, pw, _, rfl, SqL.of hwA, fun pq nq => ?_⟩
    rw [show cutV ((sealed B).map V.int) none (some (-1)) = ((sealed B).take ((sealed B).length - 1)).map V.int by rw [show (-1 : Int) = -((1 : Nat) : Int) from rfl, cut_ton _ 1 (by decide), List.length_map, List.map_take]]
    have hq : Li (upd H' pq (.lst (((sealed B).take ((sealed B).length - 1)).map V.int))) pq ((sealed B).take ((sealed B).length - 1)) := upd_same
    have hql : ((sealed B).take ((sealed B).length - 1)).length = B.length + 2 := by rw [List.length_take, sl]; omega
    generalize upd H' pq (.lst (((sealed B).take ((sealed B).length - 1)).map V.int)) = HQ at hq
    generalize (sealed B).take ((sealed B).length - 1) = S at hq hql
    refine ⟨_, rfl, _, _, rfl, .inl ⟨_, SqL.of hq, rfl⟩, _, _, rfl, rfl, _, rfl, ?_⟩
    refine iteD (fun c => ?_) (fun c => ?_)
    · rw [List.length_map] at c
      exact ⟨_, rfl, pq, S, false, rfl, hq, by omega, fun _ => by omega, fun q => Bool.noConfusion q, fun HR sR => h1 _⟩
    · rw [List.length_map] at c
      refine ⟨_, rfl, _, rfl, _, rfl, _, rfl, pq, _, rfl, SqL.of hq, fun pr nr => ?_⟩
      rw [show cutV (S.map V.int) none (some (-3)) = (S.take (S.length - 3)).map V.int by rw [show (-3 : Int) = -((3 : Nat) : Int) from rfl, cut_ton _ 3 (by decide), List.length_map, List.map_take]]
      have sr := same_new (o := .lst ((S.take (S.length - 3)).map V.int)) nr
      refine ⟨pr, _, rfl, upd_same, by rw [List.length_take]; omega, fun pt HT2 sT nT hT => ⟨_, _, dp_ints (SqL.of (sT _ _ (sr _ _ hq))), dp_ints (SqL.of hT), shaped_dInts _, shaped_dInts _, _, rfl, ?_⟩⟩
      rw [eqv_dInts]
      refine iteD (fun k => h1 _) (fun k => ?_)
      exact ⟨_, rfl, pq, S, true, rfl, sT _ _ (sr _ _ hq), by omega, fun q => Bool.noConfusion q, fun _ => ⟨by omega, fun o => k (sealed_of_open o).symm⟩, fun HR sR => h1 _⟩

end
theorem all_mk {l : PySem.W.OpenLaw} {w : World} {K : PySem.W.Frag} {h : Heap} {mg : Str → Option Value} {fa C_MeridianError C_BadBytes C_BadSeal f_checksum f_seal f_open_seal f__checksum_bytes f__law_cell f__law_is_int f__law_draws f__law_block f__law_sum f__law_sealed f__law_refused f_law : Addr} (X : K.In h) (G : h.Ns mainGlobals mg) (hfa : mg "law" = some (.ref fa))
    {od_checksum an_checksum : Option Addr} {sl_checksum : Array (Option Value)} {oc_checksum kV_checksum dc_checksum pm_checksum cd_checksum ct_checksum : Value}
    {od_seal an_seal : Option Addr} {sl_seal : Array (Option Value)} {oc_seal kV_seal dc_seal pm_seal cd_seal ct_seal : Value}
    {od_open_seal an_open_seal : Option Addr} {sl_open_seal : Array (Option Value)} {oc_open_seal kV_open_seal dc_open_seal pm_open_seal cd_open_seal ct_open_seal : Value}
    {od__checksum_bytes an__checksum_bytes : Option Addr} {sl__checksum_bytes : Array (Option Value)} {oc__checksum_bytes kV__checksum_bytes dc__checksum_bytes pm__checksum_bytes cd__checksum_bytes ct__checksum_bytes : Value}
    {od__law_cell an__law_cell : Option Addr} {sl__law_cell : Array (Option Value)} {oc__law_cell kV__law_cell dc__law_cell pm__law_cell cd__law_cell ct__law_cell : Value}
    {od__law_is_int an__law_is_int : Option Addr} {sl__law_is_int : Array (Option Value)} {oc__law_is_int kV__law_is_int dc__law_is_int pm__law_is_int cd__law_is_int ct__law_is_int : Value}
    {od__law_draws an__law_draws : Option Addr} {sl__law_draws : Array (Option Value)} {oc__law_draws kV__law_draws dc__law_draws pm__law_draws cd__law_draws ct__law_draws : Value}
    {od__law_block an__law_block : Option Addr} {sl__law_block : Array (Option Value)} {oc__law_block kV__law_block dc__law_block pm__law_block cd__law_block ct__law_block : Value}
    {od__law_sum an__law_sum : Option Addr} {sl__law_sum : Array (Option Value)} {oc__law_sum kV__law_sum dc__law_sum pm__law_sum cd__law_sum ct__law_sum : Value}
    {od__law_sealed an__law_sealed : Option Addr} {sl__law_sealed : Array (Option Value)} {oc__law_sealed kV__law_sealed dc__law_sealed pm__law_sealed cd__law_sealed ct__law_sealed : Value}
    {od__law_refused an__law_refused : Option Addr} {sl__law_refused : Array (Option Value)} {oc__law_refused kV__law_refused dc__law_refused pm__law_refused cd__law_refused ct__law_refused : Value}
    {od_law an_law : Option Addr} {sl_law : Array (Option Value)} {oc_law kV_law dc_law pm_law cd_law ct_law : Value}
    (mg_MeridianError : PySem.W.nsIn K mainGlobals "MeridianError" = some (some (.ref C_MeridianError)))
    (x_MeridianError : PySem.W.excIn K C_MeridianError [.type "ValueError", .type "Exception", .type "BaseException", .type "object"] "ValueError.__new__" = true)
    (kc_MeridianError : PySem.W.keepIn K (.ref C_MeridianError) = true)
    (bp_MeridianError : PySem.W.subIn K (.ref C_MeridianError) (.type "BaseException") = some true)
    (tp_MeridianError : PySem.W.typeIn K (.ref C_MeridianError) = some (.type "type"))
    (ip_MeridianError : PySem.W.isClsIn K C_MeridianError = true)
    (ga_MeridianError : PySem.W.findIn K (.ref C_MeridianError) "__getattribute__" = some (some (.builtin "BaseException.__getattribute__")))
    (gt_MeridianError : PySem.W.findIn K (.ref C_MeridianError) "__getattr__" = some none)
    (hd_MeridianError : PySem.W.hasDictIn K C_MeridianError = true)
    (ca_MeridianError : PySem.W.findIn K (.ref C_MeridianError) "__class__" = some (some (.builtin "object.__class__")))
    (mo_MeridianError : PySem.W.mroIn K C_MeridianError (.type "object") = some true)
    (ve_MeridianError : PySem.W.subIn K (.ref C_MeridianError) (.type "ValueError") = some true)
    (u_MeridianError_MeridianError : PySem.W.subIn K (.ref C_MeridianError) (.ref C_MeridianError) = some true)
    (u_MeridianError_BadBytes : PySem.W.subIn K (.ref C_MeridianError) (.ref C_BadBytes) = some false)
    (u_MeridianError_BadSeal : PySem.W.subIn K (.ref C_MeridianError) (.ref C_BadSeal) = some false)
    (mg_BadBytes : PySem.W.nsIn K mainGlobals "BadBytes" = some (some (.ref C_BadBytes)))
    (x_BadBytes : PySem.W.excIn K C_BadBytes [.type "ValueError", .type "Exception", .type "BaseException", .type "object"] "ValueError.__new__" = true)
    (kc_BadBytes : PySem.W.keepIn K (.ref C_BadBytes) = true)
    (bp_BadBytes : PySem.W.subIn K (.ref C_BadBytes) (.type "BaseException") = some true)
    (tp_BadBytes : PySem.W.typeIn K (.ref C_BadBytes) = some (.type "type"))
    (ip_BadBytes : PySem.W.isClsIn K C_BadBytes = true)
    (ga_BadBytes : PySem.W.findIn K (.ref C_BadBytes) "__getattribute__" = some (some (.builtin "BaseException.__getattribute__")))
    (gt_BadBytes : PySem.W.findIn K (.ref C_BadBytes) "__getattr__" = some none)
    (hd_BadBytes : PySem.W.hasDictIn K C_BadBytes = true)
    (ca_BadBytes : PySem.W.findIn K (.ref C_BadBytes) "__class__" = some (some (.builtin "object.__class__")))
    (mo_BadBytes : PySem.W.mroIn K C_BadBytes (.type "object") = some true)
    (ve_BadBytes : PySem.W.subIn K (.ref C_BadBytes) (.type "ValueError") = some true)
    (u_BadBytes_MeridianError : PySem.W.subIn K (.ref C_BadBytes) (.ref C_MeridianError) = some true)
    (u_BadBytes_BadBytes : PySem.W.subIn K (.ref C_BadBytes) (.ref C_BadBytes) = some true)
    (u_BadBytes_BadSeal : PySem.W.subIn K (.ref C_BadBytes) (.ref C_BadSeal) = some false)
    (mg_BadSeal : PySem.W.nsIn K mainGlobals "BadSeal" = some (some (.ref C_BadSeal)))
    (x_BadSeal : PySem.W.excIn K C_BadSeal [.type "ValueError", .type "Exception", .type "BaseException", .type "object"] "ValueError.__new__" = true)
    (kc_BadSeal : PySem.W.keepIn K (.ref C_BadSeal) = true)
    (bp_BadSeal : PySem.W.subIn K (.ref C_BadSeal) (.type "BaseException") = some true)
    (tp_BadSeal : PySem.W.typeIn K (.ref C_BadSeal) = some (.type "type"))
    (ip_BadSeal : PySem.W.isClsIn K C_BadSeal = true)
    (ga_BadSeal : PySem.W.findIn K (.ref C_BadSeal) "__getattribute__" = some (some (.builtin "BaseException.__getattribute__")))
    (gt_BadSeal : PySem.W.findIn K (.ref C_BadSeal) "__getattr__" = some none)
    (hd_BadSeal : PySem.W.hasDictIn K C_BadSeal = true)
    (ca_BadSeal : PySem.W.findIn K (.ref C_BadSeal) "__class__" = some (some (.builtin "object.__class__")))
    (mo_BadSeal : PySem.W.mroIn K C_BadSeal (.type "object") = some true)
    (ve_BadSeal : PySem.W.subIn K (.ref C_BadSeal) (.type "ValueError") = some true)
    (u_BadSeal_MeridianError : PySem.W.subIn K (.ref C_BadSeal) (.ref C_MeridianError) = some true)
    (u_BadSeal_BadBytes : PySem.W.subIn K (.ref C_BadSeal) (.ref C_BadBytes) = some true)
    (u_BadSeal_BadSeal : PySem.W.subIn K (.ref C_BadSeal) (.ref C_BadSeal) = some true)
    (cn : PySem.W.specialIn K (.builtin "object.__class__") "__get__" = some (some (.builtin "getset_descriptor.__get__")))
    (ct : PySem.W.takesIn K (.builtin "object.__class__") = some true)
    (a_checksum : PySem.W.nsIn K mainGlobals "checksum" = some (some (.ref f_checksum)))
    (l_checksum : K.lookup f_checksum = some ⟨oc_checksum, od_checksum, .func (PySem.W.fnOf "checksum" "checksum" (defArgs s_checksum) (defBody s_checksum) (defScope s_checksum) .none kV_checksum dc_checksum pm_checksum an_checksum cd_checksum ct_checksum), sl_checksum⟩)
    (c_checksum : PySem.W.codeIn K cd_checksum "checksum" = true)
    (k_checksum : PySem.W.keepIn K (.ref f_checksum) = true)
    (a_seal : PySem.W.nsIn K mainGlobals "seal" = some (some (.ref f_seal)))
    (l_seal : K.lookup f_seal = some ⟨oc_seal, od_seal, .func (PySem.W.fnOf "seal" "seal" (defArgs s_seal) (defBody s_seal) (defScope s_seal) .none kV_seal dc_seal pm_seal an_seal cd_seal ct_seal), sl_seal⟩)
    (c_seal : PySem.W.codeIn K cd_seal "seal" = true)
    (k_seal : PySem.W.keepIn K (.ref f_seal) = true)
    (a_open_seal : PySem.W.nsIn K mainGlobals "open_seal" = some (some (.ref f_open_seal)))
    (l_open_seal : K.lookup f_open_seal = some ⟨oc_open_seal, od_open_seal, .func (PySem.W.fnOf "open_seal" "open_seal" (defArgs s_open_seal) (defBody s_open_seal) (defScope s_open_seal) .none kV_open_seal dc_open_seal pm_open_seal an_open_seal cd_open_seal ct_open_seal), sl_open_seal⟩)
    (c_open_seal : PySem.W.codeIn K cd_open_seal "open_seal" = true)
    (k_open_seal : PySem.W.keepIn K (.ref f_open_seal) = true)
    (a__checksum_bytes : PySem.W.nsIn K mainGlobals "_checksum_bytes" = some (some (.ref f__checksum_bytes)))
    (l__checksum_bytes : K.lookup f__checksum_bytes = some ⟨oc__checksum_bytes, od__checksum_bytes, .func (PySem.W.fnOf "_checksum_bytes" "_checksum_bytes" (defArgs s__checksum_bytes) (defBody s__checksum_bytes) (defScope s__checksum_bytes) .none kV__checksum_bytes dc__checksum_bytes pm__checksum_bytes an__checksum_bytes cd__checksum_bytes ct__checksum_bytes), sl__checksum_bytes⟩)
    (c__checksum_bytes : PySem.W.codeIn K cd__checksum_bytes "_checksum_bytes" = true)
    (k__checksum_bytes : PySem.W.keepIn K (.ref f__checksum_bytes) = true)
    (a__law_cell : PySem.W.nsIn K mainGlobals "_law_cell" = some (some (.ref f__law_cell)))
    (l__law_cell : K.lookup f__law_cell = some ⟨oc__law_cell, od__law_cell, .func (PySem.W.fnOf "_law_cell" "_law_cell" (defArgs s__law_cell) (defBody s__law_cell) (defScope s__law_cell) .none kV__law_cell dc__law_cell pm__law_cell an__law_cell cd__law_cell ct__law_cell), sl__law_cell⟩)
    (c__law_cell : PySem.W.codeIn K cd__law_cell "_law_cell" = true)
    (k__law_cell : PySem.W.keepIn K (.ref f__law_cell) = true)
    (a__law_is_int : PySem.W.nsIn K mainGlobals "_law_is_int" = some (some (.ref f__law_is_int)))
    (l__law_is_int : K.lookup f__law_is_int = some ⟨oc__law_is_int, od__law_is_int, .func (PySem.W.fnOf "_law_is_int" "_law_is_int" (defArgs s__law_is_int) (defBody s__law_is_int) (defScope s__law_is_int) .none kV__law_is_int dc__law_is_int pm__law_is_int an__law_is_int cd__law_is_int ct__law_is_int), sl__law_is_int⟩)
    (c__law_is_int : PySem.W.codeIn K cd__law_is_int "_law_is_int" = true)
    (k__law_is_int : PySem.W.keepIn K (.ref f__law_is_int) = true)
    (a__law_draws : PySem.W.nsIn K mainGlobals "_law_draws" = some (some (.ref f__law_draws)))
    (l__law_draws : K.lookup f__law_draws = some ⟨oc__law_draws, od__law_draws, .func (PySem.W.fnOf "_law_draws" "_law_draws" (defArgs s__law_draws) (defBody s__law_draws) (defScope s__law_draws) .none kV__law_draws dc__law_draws pm__law_draws an__law_draws cd__law_draws ct__law_draws), sl__law_draws⟩)
    (c__law_draws : PySem.W.codeIn K cd__law_draws "_law_draws" = true)
    (k__law_draws : PySem.W.keepIn K (.ref f__law_draws) = true)
    (a__law_block : PySem.W.nsIn K mainGlobals "_law_block" = some (some (.ref f__law_block)))
    (l__law_block : K.lookup f__law_block = some ⟨oc__law_block, od__law_block, .func (PySem.W.fnOf "_law_block" "_law_block" (defArgs s__law_block) (defBody s__law_block) (defScope s__law_block) .none kV__law_block dc__law_block pm__law_block an__law_block cd__law_block ct__law_block), sl__law_block⟩)
    (c__law_block : PySem.W.codeIn K cd__law_block "_law_block" = true)
    (k__law_block : PySem.W.keepIn K (.ref f__law_block) = true)
    (a__law_sum : PySem.W.nsIn K mainGlobals "_law_sum" = some (some (.ref f__law_sum)))
    (l__law_sum : K.lookup f__law_sum = some ⟨oc__law_sum, od__law_sum, .func (PySem.W.fnOf "_law_sum" "_law_sum" (defArgs s__law_sum) (defBody s__law_sum) (defScope s__law_sum) .none kV__law_sum dc__law_sum pm__law_sum an__law_sum cd__law_sum ct__law_sum), sl__law_sum⟩)
    (c__law_sum : PySem.W.codeIn K cd__law_sum "_law_sum" = true)
    (k__law_sum : PySem.W.keepIn K (.ref f__law_sum) = true)
    (a__law_sealed : PySem.W.nsIn K mainGlobals "_law_sealed" = some (some (.ref f__law_sealed)))
    (l__law_sealed : K.lookup f__law_sealed = some ⟨oc__law_sealed, od__law_sealed, .func (PySem.W.fnOf "_law_sealed" "_law_sealed" (defArgs s__law_sealed) (defBody s__law_sealed) (defScope s__law_sealed) .none kV__law_sealed dc__law_sealed pm__law_sealed an__law_sealed cd__law_sealed ct__law_sealed), sl__law_sealed⟩)
    (c__law_sealed : PySem.W.codeIn K cd__law_sealed "_law_sealed" = true)
    (k__law_sealed : PySem.W.keepIn K (.ref f__law_sealed) = true)
    (a__law_refused : PySem.W.nsIn K mainGlobals "_law_refused" = some (some (.ref f__law_refused)))
    (l__law_refused : K.lookup f__law_refused = some ⟨oc__law_refused, od__law_refused, .func (PySem.W.fnOf "_law_refused" "_law_refused" (defArgs s__law_refused) (defBody s__law_refused) (defScope s__law_refused) .none kV__law_refused dc__law_refused pm__law_refused an__law_refused cd__law_refused ct__law_refused), sl__law_refused⟩)
    (c__law_refused : PySem.W.codeIn K cd__law_refused "_law_refused" = true)
    (k__law_refused : PySem.W.keepIn K (.ref f__law_refused) = true)
    (a_law : PySem.W.nsIn K mainGlobals "law" = some (some (.ref f_law)))
    (l_law : K.lookup f_law = some ⟨oc_law, od_law, .func (PySem.W.fnOf "law" "law" (defArgs s_law) (defBody s_law) (defScope s_law) .none kV_law dc_law pm_law an_law cd_law ct_law), sl_law⟩)
    (c_law : PySem.W.codeIn K cd_law "law" = true)
    (k_law : PySem.W.keepIn K (.ref f_law) = true)
    (z_len : PySem.W.nsIn K mainGlobals "len" = some none)
    (z_abs : PySem.W.nsIn K mainGlobals "abs" = some none)
    (z_int : PySem.W.nsIn K mainGlobals "int" = some none)
    (z_isinstance : PySem.W.nsIn K mainGlobals "isinstance" = some none)
    (z_bool : PySem.W.nsIn K mainGlobals "bool" = some none)
    (z_range : PySem.W.nsIn K mainGlobals "range" = some none)
    (z_list : PySem.W.nsIn K mainGlobals "list" = some none) :
    ∃ fd : FuncData, (∀ (s : Shared) (v : Value), BindsTo s fd ⟨[v], []⟩ [("script", v)]) ∧ ∀ base : Heap, K.In base → base.Ns mainGlobals mg → FnOk l.prog w K mg base CX0 6 fa fd ["script"] (spLaw K) := by
  have e : f_law = fa := (Value.ref.inj (Option.some.inj (hfa.symm.trans (PySem.W.mg_of X G a_law)))).symm
  subst e
  let T : Env K mg := {
    c_MeridianError := C_MeridianError,
    c_BadBytes := C_BadBytes,
    c_BadSeal := C_BadSeal,
    a_checksum := f_checksum,
    d_checksum := _,
    F_checksum := fun_mk (st := s_checksum) l_checksum c_checksum k_checksum,
    b_checksum := (fun_mk (st := s_checksum) l_checksum c_checksum k_checksum).binds (ps := ["block"]) fun _ _ _ _ _ _ us hl => match us, hl with | [_], _ => rfl,
    g_checksum := PySem.W.mg_of X G a_checksum,
    a_seal := f_seal,
    d_seal := _,
    F_seal := fun_mk (st := s_seal) l_seal c_seal k_seal,
    b_seal := (fun_mk (st := s_seal) l_seal c_seal k_seal).binds (ps := ["block"]) fun _ _ _ _ _ _ us hl => match us, hl with | [_], _ => rfl,
    g_seal := PySem.W.mg_of X G a_seal,
    a_open_seal := f_open_seal,
    d_open_seal := _,
    F_open_seal := fun_mk (st := s_open_seal) l_open_seal c_open_seal k_open_seal,
    b_open_seal := (fun_mk (st := s_open_seal) l_open_seal c_open_seal k_open_seal).binds (ps := ["block"]) fun _ _ _ _ _ _ us hl => match us, hl with | [_], _ => rfl,
    g_open_seal := PySem.W.mg_of X G a_open_seal,
    a__checksum_bytes := f__checksum_bytes,
    d__checksum_bytes := _,
    F__checksum_bytes := fun_mk (st := s__checksum_bytes) l__checksum_bytes c__checksum_bytes k__checksum_bytes,
    b__checksum_bytes := (fun_mk (st := s__checksum_bytes) l__checksum_bytes c__checksum_bytes k__checksum_bytes).binds (ps := ["block"]) fun _ _ _ _ _ _ us hl => match us, hl with | [_], _ => rfl,
    g__checksum_bytes := PySem.W.mg_of X G a__checksum_bytes,
    a__law_cell := f__law_cell,
    d__law_cell := _,
    F__law_cell := fun_mk (st := s__law_cell) l__law_cell c__law_cell k__law_cell,
    b__law_cell := (fun_mk (st := s__law_cell) l__law_cell c__law_cell k__law_cell).binds (ps := ["script", "k"]) fun _ _ _ _ _ _ us hl => match us, hl with | [_, _], _ => rfl,
    g__law_cell := PySem.W.mg_of X G a__law_cell,
    a__law_is_int := f__law_is_int,
    d__law_is_int := _,
    F__law_is_int := fun_mk (st := s__law_is_int) l__law_is_int c__law_is_int k__law_is_int,
    b__law_is_int := (fun_mk (st := s__law_is_int) l__law_is_int c__law_is_int k__law_is_int).binds (ps := ["thing"]) fun _ _ _ _ _ _ us hl => match us, hl with | [_], _ => rfl,
    g__law_is_int := PySem.W.mg_of X G a__law_is_int,
    a__law_draws := f__law_draws,
    d__law_draws := _,
    F__law_draws := fun_mk (st := s__law_draws) l__law_draws c__law_draws k__law_draws,
    b__law_draws := (fun_mk (st := s__law_draws) l__law_draws c__law_draws k__law_draws).binds (ps := ["cell", "many", "limit"]) fun _ _ _ _ _ _ us hl => match us, hl with | [_, _, _], _ => rfl,
    g__law_draws := PySem.W.mg_of X G a__law_draws,
    a__law_block := f__law_block,
    d__law_block := _,
    F__law_block := fun_mk (st := s__law_block) l__law_block c__law_block k__law_block,
    b__law_block := (fun_mk (st := s__law_block) l__law_block c__law_block k__law_block).binds (ps := ["cell", "many"]) fun _ _ _ _ _ _ us hl => match us, hl with | [_, _], _ => rfl,
    g__law_block := PySem.W.mg_of X G a__law_block,
    a__law_sum := f__law_sum,
    d__law_sum := _,
    F__law_sum := fun_mk (st := s__law_sum) l__law_sum c__law_sum k__law_sum,
    b__law_sum := (fun_mk (st := s__law_sum) l__law_sum c__law_sum k__law_sum).binds (ps := ["block"]) fun _ _ _ _ _ _ us hl => match us, hl with | [_], _ => rfl,
    g__law_sum := PySem.W.mg_of X G a__law_sum,
    a__law_sealed := f__law_sealed,
    d__law_sealed := _,
    F__law_sealed := fun_mk (st := s__law_sealed) l__law_sealed c__law_sealed k__law_sealed,
    b__law_sealed := (fun_mk (st := s__law_sealed) l__law_sealed c__law_sealed k__law_sealed).binds (ps := ["block"]) fun _ _ _ _ _ _ us hl => match us, hl with | [_], _ => rfl,
    g__law_sealed := PySem.W.mg_of X G a__law_sealed,
    a__law_refused := f__law_refused,
    d__law_refused := _,
    F__law_refused := fun_mk (st := s__law_refused) l__law_refused c__law_refused k__law_refused,
    b__law_refused := (fun_mk (st := s__law_refused) l__law_refused c__law_refused k__law_refused).binds (ps := ["block", "sealed"]) fun _ _ _ _ _ _ us hl => match us, hl with | [_, _], _ => rfl,
    g__law_refused := PySem.W.mg_of X G a__law_refused,
    a_law := f_law,
    d_law := _,
    F_law := fun_mk (st := s_law) l_law c_law k_law,
    b_law := (fun_mk (st := s_law) l_law c_law k_law).binds (ps := ["script"]) fun _ _ _ _ _ _ us hl => match us, hl with | [_], _ => rfl,
    e_MeridianError := ⟨PySem.W.mg_of X G mg_MeridianError, x_MeridianError, kc_MeridianError, bp_MeridianError, tp_MeridianError, ip_MeridianError, ⟨ga_MeridianError, gt_MeridianError, bp_MeridianError, hd_MeridianError, ca_MeridianError, cn, ct, mo_MeridianError⟩, kit_ty_sub ve_MeridianError (by decide +kernel)⟩,
    u_MeridianError_MeridianError := PySem.W.exm_ref bp_MeridianError hd_MeridianError tp_MeridianError u_MeridianError_MeridianError,
    q_MeridianError_MeridianError := kit_own u_MeridianError_MeridianError u_MeridianError_MeridianError ip_MeridianError tp_MeridianError,
    u_MeridianError_BadBytes := PySem.W.exm_ref bp_BadBytes hd_BadBytes tp_BadBytes u_MeridianError_BadBytes,
    q_MeridianError_BadBytes := kit_own u_MeridianError_BadBytes u_MeridianError_MeridianError ip_BadBytes tp_BadBytes,
    u_MeridianError_BadSeal := PySem.W.exm_ref bp_BadSeal hd_BadSeal tp_BadSeal u_MeridianError_BadSeal,
    q_MeridianError_BadSeal := kit_own u_MeridianError_BadSeal u_MeridianError_MeridianError ip_BadSeal tp_BadSeal,
    e_BadBytes := ⟨PySem.W.mg_of X G mg_BadBytes, x_BadBytes, kc_BadBytes, bp_BadBytes, tp_BadBytes, ip_BadBytes, ⟨ga_BadBytes, gt_BadBytes, bp_BadBytes, hd_BadBytes, ca_BadBytes, cn, ct, mo_BadBytes⟩, kit_ty_sub ve_BadBytes (by decide +kernel)⟩,
    u_BadBytes_MeridianError := PySem.W.exm_ref bp_MeridianError hd_MeridianError tp_MeridianError u_BadBytes_MeridianError,
    q_BadBytes_MeridianError := kit_own u_BadBytes_MeridianError u_BadBytes_BadBytes ip_MeridianError tp_MeridianError,
    u_BadBytes_BadBytes := PySem.W.exm_ref bp_BadBytes hd_BadBytes tp_BadBytes u_BadBytes_BadBytes,
    q_BadBytes_BadBytes := kit_own u_BadBytes_BadBytes u_BadBytes_BadBytes ip_BadBytes tp_BadBytes,
    u_BadBytes_BadSeal := PySem.W.exm_ref bp_BadSeal hd_BadSeal tp_BadSeal u_BadBytes_BadSeal,
    q_BadBytes_BadSeal := kit_own u_BadBytes_BadSeal u_BadBytes_BadBytes ip_BadSeal tp_BadSeal,
    e_BadSeal := ⟨PySem.W.mg_of X G mg_BadSeal, x_BadSeal, kc_BadSeal, bp_BadSeal, tp_BadSeal, ip_BadSeal, ⟨ga_BadSeal, gt_BadSeal, bp_BadSeal, hd_BadSeal, ca_BadSeal, cn, ct, mo_BadSeal⟩, kit_ty_sub ve_BadSeal (by decide +kernel)⟩,
    u_BadSeal_MeridianError := PySem.W.exm_ref bp_MeridianError hd_MeridianError tp_MeridianError u_BadSeal_MeridianError,
    q_BadSeal_MeridianError := kit_own u_BadSeal_MeridianError u_BadSeal_BadSeal ip_MeridianError tp_MeridianError,
    u_BadSeal_BadBytes := PySem.W.exm_ref bp_BadBytes hd_BadBytes tp_BadBytes u_BadSeal_BadBytes,
    q_BadSeal_BadBytes := kit_own u_BadSeal_BadBytes u_BadSeal_BadSeal ip_BadBytes tp_BadBytes,
    u_BadSeal_BadSeal := PySem.W.exm_ref bp_BadSeal hd_BadSeal tp_BadSeal u_BadSeal_BadSeal,
    q_BadSeal_BadSeal := kit_own u_BadSeal_BadSeal u_BadSeal_BadSeal ip_BadSeal tp_BadSeal,
    z_len := PySem.W.mg_none_of X G z_len,
    z_abs := PySem.W.mg_none_of X G z_abs,
    z_int := PySem.W.mg_none_of X G z_int,
    z_isinstance := PySem.W.mg_none_of X G z_isinstance,
    z_bool := PySem.W.mg_none_of X G z_bool,
    z_range := PySem.W.mg_none_of X G z_range,
    z_list := PySem.W.mg_none_of X G z_list }
  exact ⟨PySem.W.fnOf "law" "law" (defArgs s_law) (defBody s_law) (defScope s_law) .none kV_law dc_law pm_law an_law cd_law ct_law, fun s v => .of_eq rfl, fun base _ _ => ok_law T⟩
theorem walk {l : PySem.W.OpenLaw} {q : Program} {loose : List Str} {XP : (Str → Option Value) → Heap → Prop} {YP : World → Heap → Prop} {d : DefRec} {K : Params → PySem.W.Frag} (hn : l.most = some 63) (hdf : d.params.defaults = [])
    (hY : ∀ (w : World) (h : Heap), YP w h → (K w.params).In h)
    (F : ∀ (w : World) (mg : Str → Option Value) (fa : Addr) (h : Heap), (K w.params).In h → h.Ns mainGlobals mg → mg d.name = some (.ref fa) →
      ∃ fd : FuncData, (∀ (s : Shared) (u : Value), BindsTo s fd ⟨[u], []⟩ [("script", u)]) ∧ ∀ base : Heap, (K w.params).In base → base.Ns mainGlobals mg → FnOk l.prog w (K w.params) mg base CX0 6 fa fd ["script"] (spLaw (K w.params))) :
    PySem.W.WalkO q loose XP YP l.row.toRowW d [] (fun f vs => PySem.call f vs) :=
  L2.walk_of (n := 63) (k := 6) (x := "script") (CX := fun _ => CX0) (sp := fun w => spLaw (K w.params)) hn (by decide) hdf ⟨rfl, by decide, by decide⟩ hY F (fun _ _ a ns hl _ hS => ⟨a, ns, rfl, hS, hl, fun _ => rfl⟩) fun _ _ _ _ _ z => z
end Dv
open PySem PySem.W PyProof.Rows in
set_option maxRecDepth 100000 in
set_option maxHeartbeats 0 in
theorem PySem.Challenge.cw_meridian_k05_blocks_sealed_holds : PySem.Challenge.rw_meridian_k05_blocks_sealed.Holds := by
  w_on; o_law; k_head; (case hw => w_witness2)
  k_fill
  refine Dv.walk (l := PySem.Challenge.rw_meridian_k05_blocks_sealed) rfl rfl (fun w h Y => PySem.W.kIn_of Y) ?F
  case F =>
    intro w mg fa h KX G hmg
    refine' Dv.all_mk KX G hmg ?mg_MeridianError ?x_MeridianError ?kc_MeridianError ?bp_MeridianError ?tp_MeridianError ?ip_MeridianError ?ga_MeridianError ?gt_MeridianError ?hd_MeridianError ?ca_MeridianError ?mo_MeridianError ?ve_MeridianError ?u_MeridianError_MeridianError ?u_MeridianError_BadBytes ?u_MeridianError_BadSeal ?mg_BadBytes ?x_BadBytes ?kc_BadBytes ?bp_BadBytes ?tp_BadBytes ?ip_BadBytes ?ga_BadBytes ?gt_BadBytes ?hd_BadBytes ?ca_BadBytes ?mo_BadBytes ?ve_BadBytes ?u_BadBytes_MeridianError ?u_BadBytes_BadBytes ?u_BadBytes_BadSeal ?mg_BadSeal ?x_BadSeal ?kc_BadSeal ?bp_BadSeal ?tp_BadSeal ?ip_BadSeal ?ga_BadSeal ?gt_BadSeal ?hd_BadSeal ?ca_BadSeal ?mo_BadSeal ?ve_BadSeal ?u_BadSeal_MeridianError ?u_BadSeal_BadBytes ?u_BadSeal_BadSeal ?cn ?ct ?a_checksum ?l_checksum ?c_checksum ?k_checksum ?a_seal ?l_seal ?c_seal ?k_seal ?a_open_seal ?l_open_seal ?c_open_seal ?k_open_seal ?a__checksum_bytes ?l__checksum_bytes ?c__checksum_bytes ?k__checksum_bytes ?a__law_cell ?l__law_cell ?c__law_cell ?k__law_cell ?a__law_is_int ?l__law_is_int ?c__law_is_int ?k__law_is_int ?a__law_draws ?l__law_draws ?c__law_draws ?k__law_draws ?a__law_block ?l__law_block ?c__law_block ?k__law_block ?a__law_sum ?l__law_sum ?c__law_sum ?k__law_sum ?a__law_sealed ?l__law_sealed ?c__law_sealed ?k__law_sealed ?a__law_refused ?l__law_refused ?c__law_refused ?k__law_refused ?a_law ?l_law ?c_law ?k_law ?z_len ?z_abs ?z_int ?z_isinstance ?z_bool ?z_range ?z_list
    (case mg_MeridianError => k_is)
    (case mg_BadBytes => k_is)
    (case mg_BadSeal => k_is)
    (case a_checksum => k_is)
    (case a_seal => k_is)
    (case a_open_seal => k_is)
    (case a__checksum_bytes => k_is)
    (case a__law_cell => k_is)
    (case a__law_is_int => k_is)
    (case a__law_draws => k_is)
    (case a__law_block => k_is)
    (case a__law_sum => k_is)
    (case a__law_sealed => k_is)
    (case a__law_refused => k_is)
    (case a_law => k_is)
    (case x_MeridianError => k_exc)
    (case kc_MeridianError => k_is)
    (case bp_MeridianError => k_is)
    (case tp_MeridianError => k_is)
    (case ip_MeridianError => k_is)
    (case ga_MeridianError => k_is)
    (case gt_MeridianError => k_is)
    (case hd_MeridianError => k_is)
    (case ca_MeridianError => k_is)
    (case mo_MeridianError => k_is)
    (case ve_MeridianError => k_is)
    (case u_MeridianError_MeridianError => k_is)
    (case u_MeridianError_BadBytes => k_is)
    (case u_MeridianError_BadSeal => k_is)
    (case x_BadBytes => k_exc)
    (case kc_BadBytes => k_is)
    (case bp_BadBytes => k_is)
    (case tp_BadBytes => k_is)
    (case ip_BadBytes => k_is)
    (case ga_BadBytes => k_is)
    (case gt_BadBytes => k_is)
    (case hd_BadBytes => k_is)
    (case ca_BadBytes => k_is)
    (case mo_BadBytes => k_is)
    (case ve_BadBytes => k_is)
    (case u_BadBytes_MeridianError => k_is)
    (case u_BadBytes_BadBytes => k_is)
    (case u_BadBytes_BadSeal => k_is)
    (case x_BadSeal => k_exc)
    (case kc_BadSeal => k_is)
    (case bp_BadSeal => k_is)
    (case tp_BadSeal => k_is)
    (case ip_BadSeal => k_is)
    (case ga_BadSeal => k_is)
    (case gt_BadSeal => k_is)
    (case hd_BadSeal => k_is)
    (case ca_BadSeal => k_is)
    (case mo_BadSeal => k_is)
    (case ve_BadSeal => k_is)
    (case u_BadSeal_MeridianError => k_is)
    (case u_BadSeal_BadBytes => k_is)
    (case u_BadSeal_BadSeal => k_is)
    (case cn => k_is)
    (case ct => k_is)
    (case l_checksum => k_is)
    (case c_checksum => k_is)
    (case k_checksum => k_is)
    (case l_seal => k_is)
    (case c_seal => k_is)
    (case k_seal => k_is)
    (case l_open_seal => k_is)
    (case c_open_seal => k_is)
    (case k_open_seal => k_is)
    (case l__checksum_bytes => k_is)
    (case c__checksum_bytes => k_is)
    (case k__checksum_bytes => k_is)
    (case l__law_cell => k_is)
    (case c__law_cell => k_is)
    (case k__law_cell => k_is)
    (case l__law_is_int => k_is)
    (case c__law_is_int => k_is)
    (case k__law_is_int => k_is)
    (case l__law_draws => k_is)
    (case c__law_draws => k_is)
    (case k__law_draws => k_is)
    (case l__law_block => k_is)
    (case c__law_block => k_is)
    (case k__law_block => k_is)
    (case l__law_sum => k_is)
    (case c__law_sum => k_is)
    (case k__law_sum => k_is)
    (case l__law_sealed => k_is)
    (case c__law_sealed => k_is)
    (case k__law_sealed => k_is)
    (case l__law_refused => k_is)
    (case c__law_refused => k_is)
    (case k__law_refused => k_is)
    (case l_law => k_is)
    (case c_law => k_is)
    (case k_law => k_is)
    (case z_len => k_is)
    (case z_abs => k_is)
    (case z_int => k_is)
    (case z_isinstance => k_is)
    (case z_bool => k_is)
    (case z_range => k_is)
    (case z_list => k_is)
