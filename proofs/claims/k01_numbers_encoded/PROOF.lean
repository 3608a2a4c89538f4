import PyProof.Rows.All
import Wide.All
import OpenK.AllK
import Wide.FinOn
import HandS.ForExc
import HandS.ForMost
import HandS.IsInst
import HandS.ExcIs
import HandS.Wide
import HandS.CallSlots
import HandS.Property
import HandS.Defaults
import HandS.MakeKwOnly
import HandS.TupAny
import HandS.LawCells
import PySem.Challenge.RW_meridian_k01_numbers_encoded
set_option Elab.async false
set_option linter.all false
set_option maxRecDepth 100000
set_option maxHeartbeats 4000000
namespace Dv
open PySem PySem.Spec PyProof.Rows L2
def top (i : Nat) : Stmt := PySem.Challenge.pw_meridian_k01_numbers_encoded.main.body.getD i (.Pass ⟨0, 0, 0, 0⟩)
abbrev s_encode_number : Stmt := (top 6)
theorem sc_encode_number : FnScope ["number", "block"] ["number"] (defScope s_encode_number) := ⟨rfl, rfl, rfl, by decide +kernel, rfl, by decide +kernel, by decide +kernel⟩
abbrev s__law_cell : Stmt := (top 8)
theorem sc__law_cell : FnScope ["script", "k"] ["script", "k"] (defScope s__law_cell) := ⟨rfl, rfl, rfl, by decide +kernel, rfl, by decide +kernel, by decide +kernel⟩
abbrev s__law_is_int : Stmt := (top 9)
theorem sc__law_is_int : FnScope ["thing"] ["thing"] (defScope s__law_is_int) := ⟨rfl, rfl, rfl, by decide +kernel, rfl, by decide +kernel, by decide +kernel⟩
abbrev s__law_is_block : Stmt := (top 10)
theorem sc__law_is_block : FnScope ["thing", "byte"] ["thing"] (defScope s__law_is_block) := ⟨rfl, rfl, rfl, by decide +kernel, rfl, by decide +kernel, by decide +kernel⟩
abbrev s__law_varint : Stmt := (top 11)
theorem sc__law_varint : FnScope ["number", "out"] ["number"] (defScope s__law_varint) := ⟨rfl, rfl, rfl, by decide +kernel, rfl, by decide +kernel, by decide +kernel⟩
abbrev s__law_number : Stmt := (top 12)
theorem sc__law_number : FnScope ["cell"] ["cell"] (defScope s__law_number) := ⟨rfl, rfl, rfl, by decide +kernel, rfl, by decide +kernel, by decide +kernel⟩
abbrev s__law_refused : Stmt := (top 13)
theorem sc__law_refused : FnScope ["number", "e"] ["number"] (defScope s__law_refused) := ⟨rfl, rfl, rfl, by decide +kernel, rfl, by decide +kernel, by decide +kernel⟩
abbrev s_law : Stmt := (top 14)
theorem sc_law : FnScope ["script", "k", "number", "actual"] ["script"] (defScope s_law) := ⟨rfl, rfl, rfl, by decide +kernel, rfl, by decide +kernel, by decide +kernel⟩
theorem kit_own {K : PySem.W.Frag} {C E : Addr} {b : Bool} (h : PySem.W.subIn K (.ref C) (.ref E) = some b) (hs : PySem.W.subIn K (.ref C) (.ref C) = some true) (hc : PySem.W.isClsIn K E = true) (ht : PySem.W.typeIn K (.ref E) = some (.type "type")) :
    PySem.W.kitOne K (.ref C) (.ref E) = some b := by
  unfold PySem.W.kitOne
  by_cases e : (Value.ref C == Value.ref E) = true
  · rw [if_pos e]
    have e' : Value.ref C = Value.ref E := by simpa using e
    rw [← e', hs] at h
    exact h
  · rw [if_neg e]
    show (if ((PySem.W.clsIn K E).isSome && PySem.W.typeIn K (.ref E) == some (.type "type")) = true then PySem.W.subIn K (.ref C) (.ref E) else none) = some b
    have hc' : (PySem.W.clsIn K E).isSome = true := hc
    rw [hc', ht, if_pos (by rfl)]
    exact h
theorem kit_ty_sub {K : PySem.W.Frag} {C : Addr} {T : String} {b : Bool} (h : PySem.W.subIn K (.ref C) (.type T) = some b) (hm : PySem.W.kitMeta T = true) : PySem.W.kitOne K (.ref C) (.type T) = some b := by
  unfold PySem.W.kitOne
  rw [if_neg (by simp)]
  show (if PySem.W.kitMeta T = true then PySem.W.subIn K (.ref C) (.type T) else none) = some b
  rw [if_pos hm]
  exact h
/-- isinstance(e, c), isinstance(e, (c1, ..)): e the exception that the suite holds, of whatever class -/
def rIsG (K : PySem.W.Frag) (cls : Value) (d : Option Addr) (a : Addr) : List V → Hp → VK → Prop := fun xs H Q => ∃ (D : Addr) (b : Bool), cls = .ref D ∧ d = none ∧ ExcC K D ∧
  ((∃ (c : V) (cv : Value), xs = [.ref a, c] ∧ ClsV c cv ∧ PySem.W.kitOne K (.ref D) cv = some b ∧ Q (.bl b) H) ∨
   ∃ (tp : Addr) (cs : List V) (us : List Value), xs = [.ref a, .ref tp] ∧ H tp = some (.tup cs) ∧ Paired ClsV cs us ∧ PySem.W.kitAny K (.ref D) us = some b ∧ Q (.bl b) H)
theorem call_isG {X : Cx} {a : Addr} {cls : Value} {d : Option Addr} {oe : Obj} {pn : List (Addr × Obj)} (hz : Zc cls d oe) (hf : ∃ vs, oe.data = .fields vs) : CallR (X.suite a ((a, oe) :: pn)) (.builtin "isinstance") (rIsG X.K cls d a) := by
  intro pins s σ H xs us Q I r h
  obtain ⟨D, b, rfl, rfl, C, h⟩ := h
  rcases h with ⟨c, cv, rfl, hcv, e, q⟩ | ⟨tp, cs, ws, rfl, hT, k, e, q⟩
  · exact call_isE C hz hf pins s σ H _ us Q I r ⟨c, cv, b, rfl, fun u ru => hcv.eq ru, e, q⟩
  · obtain ⟨u1, u2, rfl, r1, r2⟩ := vals2 r
    cases (show u2 = Value.ref tp from r2)
    cases (show u1 = Value.ref a from r1)
    obtain ⟨hget, _⟩ := I.pin (a, oe) (List.mem_append.mpr (.inl List.mem_cons_self))
    obtain ⟨vs, hv⟩ := hf
    have J : PySem.W.InstAt s.heap a oe D none := by
      obtain ⟨oc, od, oda, osl⟩ := oe
      obtain ⟨h1, h2⟩ := hz
      dsimp only at h1 h2 hv
      subst h1 h2 hv
      exact ⟨hget, rfl, rfl, trivial⟩
    obtain ⟨_, its, rv, o, h1, h2, n, h3⟩ := (show ObjOk X.prog X.w H s.heap tp (.tup cs) from I.hok tp _ hT)
    have e3 := ClsV.all k rv
    subst e3
    obtain ⟨oc, od, dt, sl⟩ := o
    simp only at h2 h3
    subst h2 h3
    exact PySem.W.kia_tup (PySem.W.handS_kitx_exc C.hg C.hk C.hs C.hd C.ha C.hn C.ht C.hm) I.kIn J h1 e (fun z => nomatch z) fun tk => ⟨.bl b, H, I.kept (t' := tk) fun _ _ z => z, rfl, q⟩
/-- the room that == of data wants -/
theorem hu64_of {A : Around} {k : Nat} (hr : Room k A) : A.units + 64 < cLine := Nat.lt_of_le_of_lt (Nat.le_refl _) hr.units
theorem same_new {H : Hp} {p : Addr} {o : HO} (h : H p = none) : Same H (upd H p o) := fun b x e => by
  rw [upd_ne (ne_of_none e h)]
  exact e
/-- an object unknown before may change -/
theorem same_mut {H H1 : Hp} {p : Addr} {o : HO} (s : Same H H1) (h : H p = none) : Same H (upd H1 p o) := fun b x e => by
  rw [upd_ne (ne_of_none e h)]
  exact s b x e
theorem sql_new {K : PySem.W.Frag} {H : Hp} {p : Addr} {xs : List V} : SqL K (upd H p (.lst xs)) p xs := SqL.of upd_same
theorem same_dp {K : PySem.W.Frag} {H H' : Hp} (s : Same H H') : ∀ (d : PyData) (v : V), Dp K H v d → Dp K H' v d := by
  intro d v h
  exact Dp.rec (motive_1 := fun v d _ => Dp K H' v d) (motive_2 := fun vs ds _ => DpAll K H' vs ds) .non (fun b => .bl b) (fun i => .int i) (fun x => .str x)
    (fun h1 _ ih => .lst (s.seq h1) ih) (fun h1 _ ih => .tup (by rcases h1 with h1 | h1
                                                                 · rcases h1 with h1 | ⟨o, h1⟩
                                                                   · exact .inl (.inl (s _ _ h1))
                                                                   · exact .inl (.inr ⟨o, s _ _ h1⟩)
                                                                 · exact .inr h1) ih) .nil (fun _ _ h1 h2 => .cons h1 h2) h
/-! lists of ints as data -/
def dInts (ns : List Int) : PyData := .list (ns.map PyData.int)
theorem dp_all_ints {K : PySem.W.Frag} {H : Hp} : ∀ ns : List Int, DpAll K H (ns.map V.int) (ns.map PyData.int)
  | [] => .nil
  | n :: r => .cons (.int n) (dp_all_ints r)
theorem dp_ints {K : PySem.W.Frag} {H : Hp} {a : Addr} {ns : List Int} (h : SqL K H a (ns.map V.int)) : Dp K H (.ref a) (dInts ns) := .lst h (dp_all_ints ns)
theorem eqv_ints : ∀ ns ms : List Int, PyData.eqvAll (ns.map PyData.int) (ms.map PyData.int) = decide (ns = ms)
  | [], [] => rfl
  | [], _ :: _ => rfl
  | _ :: _, [] => rfl
  | n :: r, m :: t => by
    show (PyData.eqv (.int n) (.int m) && PyData.eqvAll (r.map PyData.int) (t.map PyData.int)) = _
    rw [eqv_ints r t]
    show ((n == m) && decide (r = t)) = _
    by_cases h : n = m <;> by_cases h2 : r = t <;> simp [h, h2]
theorem eqv_dInts (ns ms : List Int) : PyData.eqv (dInts ns) (dInts ms) = decide (ns = ms) := eqv_ints ns ms
theorem canLay_ints : ∀ ns : List Int, (PyData.list (ns.map PyData.int)).canLay0 = true → True := fun _ _ => trivial
theorem ifT {c : Bool} {A B : Prop} (hc : c = true) (h : A) : if c = true then A else B := by
  rw [if_pos hc]
  exact h
theorem ifF {c : Bool} {A B : Prop} (hc : c = false) (h : B) : if c = true then A else B := by
  rw [hc, if_neg Bool.false_ne_true]
  exact h
/-- both ways of an if over a decided comparison -/
theorem iteD {p : Prop} [Decidable p] {A B : Prop} (h1 : p → A) (h2 : ¬ p → B) : if decide p = true then A else B := by
  by_cases h : p
  · rw [if_pos (decide_eq_true h)]
    exact h1 h
  · rw [if_neg (by simpa using h)]
    exact h2 h
theorem iteN {p : Prop} [Decidable p] {A B : Prop} (h1 : ¬ p → A) (h2 : p → B) : if (!decide p) = true then A else B := by
  by_cases h : p
  · rw [if_neg (by simpa using h)]
    exact h2 h
  · rw [if_pos (by simpa using h)]
    exact h1 h
theorem yes_if {σ : L2.St} {H : Hp} {A B : Hp → Prop} (h : A H) : tYes σ H (fun b H3 => if b = true then A H3 else B H3) := by
  show (if true = true then A H else B H)
  rw [if_pos rfl]
  exact h
abbrev Li (H : Hp) (p : Addr) (ns : List Int) : Prop := H p = some (.lst (ns.map V.int))
theorem szl {n : Nat} (h : n ≤ 1000000) : n < sizeLine := Nat.lt_of_le_of_lt h (by decide)
theorem szle {n : Nat} (h : n ≤ 1000000) : n ≤ sizeLine := Nat.le_of_lt (szl h)
theorem mem_int {ns : List Int} {i : Nat} {x : V} (hx : (ns.map V.int)[i]? = some x) : ∃ n, ns[i]? = some n ∧ x = V.int n := by
  rw [List.getElem?_map] at hx
  cases e : ns[i]? with
  | none => rw [e] at hx; cases hx
  | some u => rw [e] at hx; exact ⟨u, rfl, (Option.some.inj hx).symm⟩
theorem li_push {H : Hp} {p : Addr} {ns : List Int} {n : Int} : Li (upd H p (.lst (ns.map V.int ++ [V.int n]))) p (ns ++ [n]) := by
  show upd _ _ _ _ = _
  rw [upd_same, List.map_append]
  rfl
theorem take_succ {α : Type} {l : List α} {i : Nat} {x : α} (h : l[i]? = some x) : l.take (i + 1) = l.take i ++ [x] := by
  rw [List.take_add_one, h]
  rfl
/-! slices of lists -/
theorem cutV_map {α : Type} (f : α → V) (xs : List α) (lo hi : Option Int) : cutV (xs.map f) lo hi = ((xs.drop (HT.sIx xs.length 0 lo)).take (HT.sIx xs.length xs.length hi - HT.sIx xs.length 0 lo)).map f := by
  unfold cutV
  rw [List.length_map, List.map_take, List.map_drop]
theorem cut_to (xs : List V) (k : Nat) : cutV xs none (some (k : Int)) = xs.take k := by
  unfold cutV
  rw [HT.sIx_none, HT.sIx_nat, List.drop_zero, Nat.sub_zero]
  by_cases h : k ≤ xs.length
  · rw [Nat.min_eq_left h]
  · rw [Nat.min_eq_right (by omega), List.take_of_length_le (Nat.le_refl _), List.take_of_length_le (by omega)]
theorem cut_from (xs : List V) (k : Nat) : cutV xs (some (k : Int)) none = xs.drop k := by
  unfold cutV
  rw [HT.sIx_none, HT.sIx_nat]
  by_cases h : k ≤ xs.length
  · rw [Nat.min_eq_left h]
    exact List.take_of_length_le (by rw [List.length_drop]; exact Nat.le_refl _)
  · rw [Nat.min_eq_right (by omega), List.drop_of_length_le (by omega), List.take_nil, List.drop_of_length_le (by omega)]
theorem cut_fromto (xs : List V) (i j : Nat) : cutV xs (some (i : Int)) (some (j : Int)) = (xs.drop i).take (j - i) := by
  unfold cutV
  rw [HT.sIx_nat, HT.sIx_nat]
  by_cases h : i ≤ xs.length
  · rw [Nat.min_eq_left h]
    by_cases h2 : j ≤ xs.length
    · rw [Nat.min_eq_left h2]
    · rw [Nat.min_eq_right (by omega), List.take_of_length_le (by rw [List.length_drop]; exact Nat.le_refl _), List.take_of_length_le (by rw [List.length_drop]; omega)]
  · rw [show xs.drop (min i xs.length) = [] from List.drop_of_length_le (by omega), List.take_nil, List.drop_of_length_le (by omega), List.take_nil]
theorem sIx_neg (n d k : Nat) (h : 0 < k) : HT.sIx n d (some (-(k : Int))) = n - k := by
  show (if -(k : Int) < 0 then (-(k : Int) + (n : Int)).toNat else _) = _
  rw [if_pos (by omega)]
  omega
theorem cut_ton (xs : List V) (k : Nat) (h : 0 < k) : cutV xs none (some (-(k : Int))) = xs.take (xs.length - k) := by
  unfold cutV
  rw [HT.sIx_none, sIx_neg _ _ _ h, List.drop_zero, Nat.sub_zero]
theorem cut_fromn (xs : List V) (k : Nat) (h : 0 < k) : cutV xs (some (-(k : Int))) none = xs.drop (xs.length - k) := by
  unfold cutV
  rw [HT.sIx_none, sIx_neg _ _ _ h]
  exact List.take_of_length_le (by rw [List.length_drop]; exact Nat.le_refl _)

/-! own rules: methods and makings whose errors depend on the slots (for a try), keywords, an own __contains__ -/
section
variable {X : Cx} {CX : CXT} {k n : Nat} {C f : Addr} {fd : FuncData} {ps ks : List Str} {sp : Sp} {E : L2.St → XK} {dvs : List V} {ds : List Value} {o e : Expr} {es : List Expr} {kws : List Keyword} {m x : Str} {p apos pos : Pos} {ta : TE} {t tk : TA}
  {g : List Value → List Value → List Value} {gV : List V → List V → List V}
theorem run_at {pins : List (Addr × Obj)} {σ : L2.St} {H : Hp} {s : Shared} {Q : VK} {E : XK} {us0 us : List Value} {kw : List (Str × Value)} {vs : List V} (F : FnOk X.prog X.w X.K X.mg X.base CX k f fd ps sp) (hr : Room k X.A) (hx : PassesAt CX X σ E)
    (I : Inv X pins σ H s) (hb : BindsTo s fd ⟨us0, kw⟩ (ps.zip us)) (r : Vals vs us) (h : sp vs H Q E) : wpAny (model X.prog X.w) X.A (call (.ref f) us0 kw) (EP X pins σ Q) X.xe s := by
  refine wpAny_call (codeAny_mono (F.run X.A X.stack s H ⟨us0, kw⟩ us vs Q E hr I.env0 hb r h) fun r s' hq => ?_)
  cases r with
  | error er => exact hx pins H s er s' I hq
  | ok fl => cases fl with
    | ret u => exact I.after hq
    | next => exact hq.elim
    | brk => exact hq.elim
    | cont => exact hq.elim
/-- o.m(e, .., k = v, ..) -/
def tMA (C : Addr) (m : Str) (n l : Nat) (sp : Sp) (gV : List V → List V → List V) (E : L2.St → XK) (ta : TE) (t tk : TA) : TE := fun σ H Q => ta σ H fun x H1 => ∃ a dx fs, x = .ref a ∧ H1 a = some (.ins C dx fs) ∧ fs.lookup m = none ∧
  t σ H1 fun vs H2 => tk σ H2 fun zs H3 => vs.length = n ∧ zs.length = l ∧ sp (gV (x :: vs) zs) H3 Q (E σ)
theorem pe_mK {pl : Sem Bool} (he : PE X o ta) (c : Cls X.K C) (hm : Meth X.K C m f) (F : FnOk X.prog X.w X.K X.mg X.base CX k f fd ps sp) (hr : Room k X.A) (hb : KBn X.K fd ps (n + 1) ks g gV) (hx : ∀ σ, PassesAt CX X σ (E σ)) (ha : PA X (e :: es) t) (hkw : PK X kws tk)
    (hall : (backToKw pos (keywordEach kws X.env)).all (·.1.isSome) = true := by rfl) (hks : (backToKw pos (keywordEach kws X.env)).filterMap (·.1) = ks := by rfl)
    (hst : starEach (e :: es) X.env = (false, eval e X.env) :: starEach es X.env := by rfl) (hpl : ((backTo pos (starEach (e :: es) X.env)).any (·.1) || (backToKw pos (keywordEach kws X.env)).any (·.1.isNone)) = false := by rfl)
    (ht : eval (.Call (.Attribute o m apos) (e :: es) kws pos) X.env = (do
      let ov ← eval o X.env
      standAt apos.atName
      let (f, first) ← holding [ov] (getMethod ov m pl)
      callWith pos f first (backTo pos (starEach (e :: es) X.env)) (backToKw pos (keywordEach kws X.env))) := by rfl) :
    PE X (.Call (.Attribute o m apos) (e :: es) kws pos) (tMA C m n ks.length sp gV E ta t tk) := by
  refine ⟨fun pins s σ H Q I h => PySem.W.methodCall_KW (pl := pl) (thn (he.run pins s σ H _ I h) fun u s1 ⟨x, H1, I1, rx, a, dx, fs, ex, ea, l, q⟩ => ?_) ht⟩
  subst ex
  obtain rfl : u = Value.ref a := rx
  refine getmeth_ok I1 ea c hm l (PySem.W.callWith_KW (first := [.ref a]) (h₀ := X.base) I.ok.mod.kin hm.kp hall (thn (ha.run pos pins s1 σ H1 _ I1 q) fun us s2 ⟨vs, H2, I2, r, q2⟩ => ?_) hpl hst)
  refine thn (hkw.run pos pins s2 σ H2 _ I2 q2) fun ws s3 ⟨zs, H3, I3, rz, l1, l2, q3⟩ => ⟨I3.kIn, ?_⟩
  rw [hks]
  have r1 : Vals (V.ref a :: vs) (Value.ref a :: us) := .cons rfl r
  exact run_at F hr (hx σ) I3 (hb.to s3 (Value.ref a :: us) ws I3.kIn (by rw [List.length_cons, ← r.length, l1]) (rz.length.symm.trans l2)) (hb.rel r1 rz) q3
theorem pe_mK0 {pl : Sem Bool} (he : PE X o ta) (c : Cls X.K C) (hm : Meth X.K C m f) (F : FnOk X.prog X.w X.K X.mg X.base CX k f fd ps sp) (hr : Room k X.A) (hb : KBn X.K fd ps 1 ks g gV) (hx : ∀ σ, PassesAt CX X σ (E σ)) (hkw : PK X kws tk)
    (hall : (backToKw pos (keywordEach kws X.env)).all (·.1.isSome) = true := by rfl) (hks : (backToKw pos (keywordEach kws X.env)).filterMap (·.1) = ks := by rfl)
    (hpl : ((backTo pos (starEach [] X.env)).any (·.1) || (backToKw pos (keywordEach kws X.env)).any (·.1.isNone)) = false := by rfl)
    (ht : eval (.Call (.Attribute o m apos) [] kws pos) X.env = (do
      let ov ← eval o X.env
      standAt apos.atName
      let (f, first) ← holding [ov] (getMethod ov m pl)
      callWith pos f first (backTo pos (starEach [] X.env)) (backToKw pos (keywordEach kws X.env))) := by rfl) :
    PE X (.Call (.Attribute o m apos) [] kws pos) (tMA C m 0 ks.length sp gV E ta tNil tk) := by
  refine ⟨fun pins s σ H Q I h => PySem.W.methodCall_KW (pl := pl) (thn (he.run pins s σ H _ I h) fun u s1 ⟨x, H1, I1, rx, a, dx, fs, ex, ea, l, q⟩ => ?_) ht⟩
  subst ex
  obtain rfl : u = Value.ref a := rx
  refine getmeth_ok I1 ea c hm l (PySem.W.callWith_KW0 (first := [.ref a]) (h₀ := X.base) I.ok.mod.kin hm.kp hall (thn (hkw.run pos pins s1 σ H1 _ I1 q) fun ws s3 ⟨zs, H3, I3, rz, l1, l2, q3⟩ => ⟨I3.kIn, ?_⟩) hpl)
  rw [hks]
  have r1 : Vals ([V.ref a]) ([Value.ref a]) := .cons rfl .nil
  exact run_at F hr (hx σ) I3 (hb.to s3 [Value.ref a] ws I3.kIn rfl (rz.length.symm.trans l2)) (hb.rel r1 rz) q3
/-- o.m(e, ..), the wish of errors by the slots -/
def tMS (C : Addr) (m : Str) (sp : Sp) (dvs : List V) (E : L2.St → XK) (ta : TE) (t : TA) : TE := fun σ H Q => ta σ H fun x H1 => ∃ a dx fs, x = .ref a ∧ H1 a = some (.ins C dx fs) ∧ fs.lookup m = none ∧ t σ H1 fun vs H2 => sp (x :: (vs ++ dvs)) H2 Q (E σ)
theorem pe_mS {pl : Sem Bool} (he : PE X o ta) (c : Cls X.K C) (hm : Meth X.K C m f) (F : FnOk X.prog X.w X.K X.mg X.base CX k f fd ps sp) (hr : Room k X.A) (hb : Binds X.K fd ps ds) (hd : Vals dvs ds) (hx : ∀ σ, PassesAt CX X σ (E σ)) (ha : PA X (e :: es) t)
    (hst : starEach (e :: es) X.env = (false, eval e X.env) :: starEach es X.env := by rfl) (hpl : (backTo pos (starEach es X.env)).any (·.1) = false := by rfl)
    (ht : eval (.Call (.Attribute o m apos) (e :: es) [] pos) X.env = (do
      let ov ← eval o X.env
      standAt apos.atName
      let (f, first) ← holding [ov] (getMethod ov m pl)
      callWith pos f first (backTo pos (starEach (e :: es) X.env)) (backToKw pos (keywordEach [] X.env))) := by rfl) :
    PE X (.Call (.Attribute o m apos) (e :: es) [] pos) (tMS C m sp dvs E ta t) := by
  refine ⟨fun pins s σ H Q I h => PySem.W.methodCall_KW (pl := pl) (thn (he.run pins s σ H _ I h) fun u s1 ⟨x, H1, I1, rx, a, dx, fs, ex, ea, l, q⟩ => ?_) ht⟩
  subst ex
  obtain rfl : u = Value.ref a := rx
  refine getmeth_ok I1 ea c hm l (PySem.W.callWith_K (first := [.ref a]) (h₀ := X.base) I.ok.mod.kin hm.kp (thn (ha.run pos pins s1 σ H1 _ I1 q) fun us s2 ⟨vs, H2, I2, r, q2⟩ => ⟨I2.kIn, ?_⟩) hst hpl)
  have r2 : Vals (V.ref a :: (vs ++ dvs)) (Value.ref a :: us ++ ds) := .cons rfl (r.append hd)
  have hl : (Value.ref a :: us ++ ds).length = ps.length := by rw [← r2.length]; exact F.len _ _ _ _ q2
  exact run_at (us0 := Value.ref a :: us) F hr (hx σ) I2 (hb s2 (Value.ref a :: us) I2.kIn hl) r2 q2
theorem pe_mS0 {pl : Sem Bool} (he : PE X o ta) (c : Cls X.K C) (hm : Meth X.K C m f) (F : FnOk X.prog X.w X.K X.mg X.base CX k f fd ps sp) (hr : Room k X.A) (hb : Binds X.K fd ps ds) (hd : Vals dvs ds) (hx : ∀ σ, PassesAt CX X σ (E σ))
    (ht : eval (.Call (.Attribute o m apos) [] [] pos) X.env = (do
      let ov ← eval o X.env
      standAt apos.atName
      let (f, first) ← holding [ov] (getMethod ov m pl)
      callWith pos f first (backTo pos (starEach [] X.env)) (backToKw pos (keywordEach [] X.env))) := by rfl) :
    PE X (.Call (.Attribute o m apos) [] [] pos) (tMS C m sp dvs E ta tNil) := by
  refine ⟨fun pins s σ H Q I h => PySem.W.methodCall_KW (pl := pl) (thn (he.run pins s σ H _ I h) fun u s1 ⟨x, H1, I1, rx, a, dx, fs, ex, ea, l, q⟩ => ?_) ht⟩
  subst ex
  obtain rfl : u = Value.ref a := rx
  have r2 : Vals (V.ref a :: ([] ++ dvs)) (Value.ref a :: [] ++ ds) := .cons rfl hd
  have hl : (Value.ref a :: [] ++ ds).length = ps.length := by rw [← r2.length]; exact F.len _ _ _ _ q
  refine getmeth_ok I1 ea c hm l (PySem.W.callWith_K0 (first := [.ref a]) I1.kIn hm.kp (run_at (us0 := [Value.ref a]) F hr (hx σ) I1 (hb s1 [Value.ref a] I1.kIn hl) r2 q))
/-- C(e, ..), the wish of errors by the slots -/
def tKS (C : Addr) (sp : Sp) (dvs : List V) (E : L2.St → XK) (t : TA) : TE := fun σ H Q => t σ H fun vs H1 => ∀ x dx, H1 x = none → H1 dx = none → dx ≠ x →
  sp (.ref x :: (vs ++ dvs)) (upd (upd H1 dx (.own x)) x (.ins C dx [])) (fun v H2 => v = .non ∧ Q (.ref x) H2) (E σ)
theorem pe_kS (M : Mk X.K C f) (F : FnOk X.prog X.w X.K X.mg X.base CX k f fd ps sp) (hr : Room (k + 1) X.A) (hg : Gl X x) (hm : X.mg x = some (.ref C)) (hb : Binds X.K fd ps ds) (hd : Vals dvs ds) (hx : ∀ σ, PassesAt CX X σ (E σ)) (ha : PA X (e :: es) t)
    (hdb : (x == ("__debug__" : Str)) = false := by decide) (he : starEach (e :: es) X.env = (false, eval e X.env) :: starEach es X.env := by rfl) (hpl : (backTo pos (starEach es X.env)).any (·.1) = false := by rfl) :
    PE X (.Call (.Name x p) (e :: es) [] pos) (tKS C sp dvs E t) := by
  refine ⟨fun pins s σ H Q I h => wpAny_Call_Name_kw (ld_glob I hg hm (PySem.W.callWith_K (h₀ := X.base) I.ok.mod.kin M.kp (thn (ha.run pos pins s σ H _ I h) fun us s1 ⟨vs, H1, I1, r, q⟩ => ⟨I1.kIn, ?_⟩) he hpl) hdb)⟩
  have hq := q (s1.heap.objs.size + 1) s1.heap.objs.size (I1.hok.fresh (Nat.le_succ _)) (I1.hok.fresh (Nat.le_refl _)) (Nat.ne_of_lt (Nat.lt_succ_self _))
  have I2 := Inv.made (C := C) I1
  have r2 : Vals (V.ref (s1.heap.objs.size + 1) :: (vs ++ dvs)) (Value.ref (s1.heap.objs.size + 1) :: us ++ ds) := .cons rfl (r.append hd)
  have hl : (Value.ref (s1.heap.objs.size + 1) :: us ++ ds).length = ps.length := by rw [← r2.length]; exact F.len _ _ _ _ hq
  refine wpAny_call (make_map (f := f) I1.kIn M.makes M.init (beq_iff_eq.mp M.fn) (codeAny_mono (F.run _ X.stack _ _ ⟨Value.ref (s1.heap.objs.size + 1) :: us, []⟩ (Value.ref (s1.heap.objs.size + 1) :: us ++ ds) _ _ (E σ) (hr.make C us [])
    (I2.env0.make C us []) (hb _ (Value.ref (s1.heap.objs.size + 1) :: us) I2.kIn hl) r2 hq) fun r s' hz => ?_))
  cases r with
  | error er => exact hx σ pins _ _ er s' I2 hz
  | ok fl => cases fl with
    | ret u =>
      obtain ⟨v, H', I3, rv, ev, q3⟩ := I2.after hz
      subst ev
      exact ⟨rv, ⟨V.ref (s1.heap.objs.size + 1), H', I3, rfl, q3⟩⟩
    | next => exact hz.elim
    | brk => exact hz.elim
    | cont => exact hz.elim
theorem passAll {X : Cx} (σ : L2.St) : PassesAt (L2.CX X.prog X.w) X σ E0 := fun pins H s er s' I h => passL pins σ H s er s' I h
/-- y in o, o of a class with its own __contains__ -/
def rInOwn (C : Addr) (sp : Sp) (E : XK) (neg : Bool) : R2 := fun y x H Q => ∃ a dx fs, x = .ref a ∧ H a = some (.ins C dx fs) ∧ sp [.ref a, y] H (fun v H' => ∃ b : Bool, v = .bl b ∧ Q (.bl (b != neg)) H') E
theorem has_own {pins : List (Addr × Obj)} {σ : L2.St} {H : Hp} {s : Shared} {E : XK} {a dx : Addr} {fs : List (Str × V)} {y : V} {v : Value} {Q : Bool → Hp → Prop} (c : Cls X.K C) (hm : Meth X.K C "__contains__" f) (F : FnOk X.prog X.w X.K X.mg X.base CX k f fd ps sp) (hr : Room k X.A)
    (hb : Binds X.K fd ps []) (hx : Passes CX X E) (I : Inv X pins σ H s) (ea : H a = some (.ins C dx fs)) (ry : RelV y v) (h : sp [.ref a, y] H (fun z H' => ∃ b : Bool, z = .bl b ∧ Q b H') E) :
    wpAny (model X.prog X.w) X.A (contains (.ref a) v) (fun b s' => ∃ H', Inv X pins σ H' s' ∧ Q b H') X.xe s := by
  obtain ⟨mA, O, _⟩ := ins_get I.hok ea
  obtain ⟨od, J, _⟩ := O.look
  unfold contains
  refine wpAny_holding (wpAny_bind (wpAny_bind (J.type.here ((PySem.W.looks_findIn I.kIn hm.at_).here ?_))))
  rw [if_neg (by simp)]
  refine wpAny_bind (PySem.W.unlessNone_K I.kIn J hm.at_ hm.fn (wpAny_mono (run_fn (us := [.ref a, v]) (vs := [.ref a, y]) F hr hb .nil hx I (.cons rfl (.cons ry .nil)) h) (fun u s' hu => ?_) fun _ _ z => z))
  obtain ⟨z, H', I', rz, b, rfl, q⟩ := hu
  obtain rfl : u = Value.bool b := rz
  exact wpAny_truthy_bool ⟨H', I', q⟩
theorem op_inOwn {E : XK} (c : Cls X.K C) (hm : Meth X.K C "__contains__" f) (F : FnOk X.prog X.w X.K X.mg X.base CX k f fd ps sp) (hr : Room k X.A) (hb : Binds X.K fd ps []) (hx : Passes CX X E) : OpR X (compareOp .In) (rInOwn C sp E false) := by
  intro pins s σ H y x v u Q I ry rx h
  obtain ⟨a, dx, fs, rfl, ea, h⟩ := h
  obtain rfl : u = Value.ref a := rx
  refine wpAny_bind (wpAny_mono (has_own (Q := fun b H' => Q (.bl b) H') c hm F hr hb hx I ea ry (by simpa using h)) (fun b s' hz => ?_) fun _ _ z => z)
  obtain ⟨H', I', q⟩ := hz
  exact wpAny_pure ⟨.bl b, H', I', rfl, q⟩
theorem op_notInOwn {E : XK} (c : Cls X.K C) (hm : Meth X.K C "__contains__" f) (F : FnOk X.prog X.w X.K X.mg X.base CX k f fd ps sp) (hr : Room k X.A) (hb : Binds X.K fd ps []) (hx : Passes CX X E) : OpR X (compareOp .NotIn) (rInOwn C sp E true) := by
  intro pins s σ H y x v u Q I ry rx h
  obtain ⟨a, dx, fs, rfl, ea, h⟩ := h
  obtain rfl : u = Value.ref a := rx
  refine wpAny_bind (wpAny_mono (has_own (Q := fun b H' => Q (.bl (!b)) H') c hm F hr hb hx I ea ry (by simpa using h)) (fun b s' hz => ?_) fun _ _ z => z)
  obtain ⟨H', I', q⟩ := hz
  exact wpAny_pure ⟨.bl (!b), H', I', rfl, q⟩
end
/-! the same rules with K named (in comprehensions and trys the context is a bound one) -/
section
variable {X : Cx} {K : PySem.W.Frag}
theorem pe_fldK {e : Expr} {ta : TE} {f : Str} {pos : Pos} (h : X.K = K) (he : PE X e ta) (hb : attributeBase e f X.env (eval e X.env) = eval e X.env) : PE X (.Attribute e f pos) (tFld K ta f) := h ▸ pe_fld he hb
theorem ixK {r : PySem.W.Frag → V → V → Hp → VK → Prop} (h : X.K = K) (q : IxR X (r X.K)) : IxR X (r K) := h ▸ q
theorem slK {r : PySem.W.Frag → V → Option Int → Option Int → Hp → VK → Prop} (h : X.K = K) (q : SlR X (r X.K)) : SlR X (r K) := h ▸ q
theorem opK {f : Value → Value → Sem Value} {r : PySem.W.Frag → R2} (h : X.K = K) (q : OpR X f (r X.K)) : OpR X f (r K) := h ▸ q
theorem callK {v : Value} {r : PySem.W.Frag → List V → Hp → VK → Prop} (h : X.K = K) (q : CallR X v (r X.K)) : CallR X v (r K) := h ▸ q
def rLenK (K : PySem.W.Frag) : List V → Hp → VK → Prop := fun xs H Q => ∃ x n, xs = [x] ∧ LenV K x H n ∧ Q (.int n) H
def rListK (K : PySem.W.Frag) : List V → Hp → VK → Prop := fun xs H Q => ∃ p ys, xs = [.ref p] ∧ (SqL K H p ys ∨ SqT K H p ys) ∧ ∀ l, H l = none → Q (.ref l) (upd H l (.lst ys))
end
/-- what the top says of an own class without errors -/
structure ClsT (K : PySem.W.Frag) (mg : Str → Option Value) (nm : Str) (C : Addr) : Prop where
  cl : Cls K C
  mgC : mg nm = some (.ref C)
  ha : PySem.W.findIn K (.ref C) "__class__" = some (some (.builtin "object.__class__"))
  hn : PySem.W.specialIn K (.builtin "object.__class__") "__get__" = some (some (.builtin "getset_descriptor.__get__"))
  ht : PySem.W.takesIn K (.builtin "object.__class__") = some true
  hm : PySem.W.mroIn K C (.type "object") = some true
theorem kit_self {K : PySem.W.Frag} {t : Value} (h : (t == t) = true) : PySem.W.kitOne K t t = some true := by
  unfold PySem.W.kitOne
  rw [if_pos h]
theorem ClsT.ty {K : PySem.W.Frag} {mg : Str → Option Value} {nm : Str} {C : Addr} (c : ClsT K mg nm C) {H : Hp} {a dx : Addr} {fs : List (Str × V)} (e : H a = some (.ins C dx fs)) : TyX K H (.ref a) (.ref C) := .base (.ins e c.cl c.ha c.hn c.ht c.hm)
/-! one rule or another, by the proof's choice -/
theorem pe_either {X : Cx} {e : Expr} {t1 t2 : TE} (h1 : PE X e t1) (h2 : PE X e t2) : PE X e (fun σ H Q => t1 σ H Q ∨ t2 σ H Q) := ⟨fun pins s σ H Q I h => h.elim (h1.run pins s σ H Q I) (h2.run pins s σ H Q I)⟩
def iSeq (K : PySem.W.Frag) (tl : TE) : TI := fun σ H R => iList K tl σ H R ∨ iTup K tl σ H R
theorem pi_seq {X : Cx} {tg l : Expr} {tl : TE} (h : PE X l tl) : PI X tg l (iSeq X.K tl) := ⟨fun pins s σ H R I h' => h'.elim ((pi_list h).run pins s σ H R I) ((pi_tup h).run pins s σ H R I)⟩
theorem hu_of {A : Around} {k : Nat} (hr : Room k A) : A.units + 1 < cLine := by
  have := hr.un
  omega

structure ExcT (K : PySem.W.Frag) (mg : Str → Option Value) (nm : Str) (C : Addr) : Prop where
  gC : mg nm = some (.ref C)
  xP : PySem.W.excIn K C [.type "ValueError", .type "Exception", .type "BaseException", .type "object"] "ValueError.__new__" = true
  kC : PySem.W.keepIn K (.ref C) = true
  bP : PySem.W.subIn K (.ref C) (.type "BaseException") = some true
  tP : PySem.W.typeIn K (.ref C) = some (.type "type")
  iP : PySem.W.isClsIn K C = true
  cP : ExcC K C
  vP : PySem.W.kitOne K (.ref C) (.type "ValueError") = some true
structure Env (K : PySem.W.Frag) (mg : Str → Option Value) where
  c_MeridianError : Addr
  c_BadArgument : Addr
  c_BadBytes : Addr
  c_Refused : Addr
  a_encode_number : Addr
  d_encode_number : FuncData
  a__law_cell : Addr
  d__law_cell : FuncData
  a__law_is_int : Addr
  d__law_is_int : FuncData
  a__law_is_block : Addr
  d__law_is_block : FuncData
  a__law_varint : Addr
  d__law_varint : FuncData
  a__law_number : Addr
  d__law_number : FuncData
  a__law_refused : Addr
  d__law_refused : FuncData
  a_law : Addr
  d_law : FuncData
  F_encode_number : Fun K "encode_number" "encode_number" s_encode_number a_encode_number d_encode_number
  b_encode_number : Binds K d_encode_number ["number"] []
  g_encode_number : mg "encode_number" = some (.ref a_encode_number)
  F__law_cell : Fun K "_law_cell" "_law_cell" s__law_cell a__law_cell d__law_cell
  b__law_cell : Binds K d__law_cell ["script", "k"] []
  g__law_cell : mg "_law_cell" = some (.ref a__law_cell)
  F__law_is_int : Fun K "_law_is_int" "_law_is_int" s__law_is_int a__law_is_int d__law_is_int
  b__law_is_int : Binds K d__law_is_int ["thing"] []
  g__law_is_int : mg "_law_is_int" = some (.ref a__law_is_int)
  F__law_is_block : Fun K "_law_is_block" "_law_is_block" s__law_is_block a__law_is_block d__law_is_block
  b__law_is_block : Binds K d__law_is_block ["thing"] []
  g__law_is_block : mg "_law_is_block" = some (.ref a__law_is_block)
  F__law_varint : Fun K "_law_varint" "_law_varint" s__law_varint a__law_varint d__law_varint
  b__law_varint : Binds K d__law_varint ["number"] []
  g__law_varint : mg "_law_varint" = some (.ref a__law_varint)
  F__law_number : Fun K "_law_number" "_law_number" s__law_number a__law_number d__law_number
  b__law_number : Binds K d__law_number ["cell"] []
  g__law_number : mg "_law_number" = some (.ref a__law_number)
  F__law_refused : Fun K "_law_refused" "_law_refused" s__law_refused a__law_refused d__law_refused
  b__law_refused : Binds K d__law_refused ["number"] []
  g__law_refused : mg "_law_refused" = some (.ref a__law_refused)
  F_law : Fun K "law" "law" s_law a_law d_law
  b_law : Binds K d_law ["script"] []
  e_MeridianError : ExcT K mg "MeridianError" c_MeridianError
  u_MeridianError_MeridianError : PySem.W.exmOne K (.ref c_MeridianError) (.ref c_MeridianError) = some true
  q_MeridianError_MeridianError : PySem.W.kitOne K (.ref c_MeridianError) (.ref c_MeridianError) = some true
  u_MeridianError_BadArgument : PySem.W.exmOne K (.ref c_MeridianError) (.ref c_BadArgument) = some false
  q_MeridianError_BadArgument : PySem.W.kitOne K (.ref c_MeridianError) (.ref c_BadArgument) = some false
  u_MeridianError_BadBytes : PySem.W.exmOne K (.ref c_MeridianError) (.ref c_BadBytes) = some false
  q_MeridianError_BadBytes : PySem.W.kitOne K (.ref c_MeridianError) (.ref c_BadBytes) = some false
  u_MeridianError_Refused : PySem.W.exmOne K (.ref c_MeridianError) (.ref c_Refused) = some false
  q_MeridianError_Refused : PySem.W.kitOne K (.ref c_MeridianError) (.ref c_Refused) = some false
  e_BadArgument : ExcT K mg "BadArgument" c_BadArgument
  u_BadArgument_MeridianError : PySem.W.exmOne K (.ref c_BadArgument) (.ref c_MeridianError) = some true
  q_BadArgument_MeridianError : PySem.W.kitOne K (.ref c_BadArgument) (.ref c_MeridianError) = some true
  u_BadArgument_BadArgument : PySem.W.exmOne K (.ref c_BadArgument) (.ref c_BadArgument) = some true
  q_BadArgument_BadArgument : PySem.W.kitOne K (.ref c_BadArgument) (.ref c_BadArgument) = some true
  u_BadArgument_BadBytes : PySem.W.exmOne K (.ref c_BadArgument) (.ref c_BadBytes) = some false
  q_BadArgument_BadBytes : PySem.W.kitOne K (.ref c_BadArgument) (.ref c_BadBytes) = some false
  u_BadArgument_Refused : PySem.W.exmOne K (.ref c_BadArgument) (.ref c_Refused) = some false
  q_BadArgument_Refused : PySem.W.kitOne K (.ref c_BadArgument) (.ref c_Refused) = some false
  e_BadBytes : ExcT K mg "BadBytes" c_BadBytes
  u_BadBytes_MeridianError : PySem.W.exmOne K (.ref c_BadBytes) (.ref c_MeridianError) = some true
  q_BadBytes_MeridianError : PySem.W.kitOne K (.ref c_BadBytes) (.ref c_MeridianError) = some true
  u_BadBytes_BadArgument : PySem.W.exmOne K (.ref c_BadBytes) (.ref c_BadArgument) = some false
  q_BadBytes_BadArgument : PySem.W.kitOne K (.ref c_BadBytes) (.ref c_BadArgument) = some false
  u_BadBytes_BadBytes : PySem.W.exmOne K (.ref c_BadBytes) (.ref c_BadBytes) = some true
  q_BadBytes_BadBytes : PySem.W.kitOne K (.ref c_BadBytes) (.ref c_BadBytes) = some true
  u_BadBytes_Refused : PySem.W.exmOne K (.ref c_BadBytes) (.ref c_Refused) = some false
  q_BadBytes_Refused : PySem.W.kitOne K (.ref c_BadBytes) (.ref c_Refused) = some false
  e_Refused : ExcT K mg "Refused" c_Refused
  u_Refused_MeridianError : PySem.W.exmOne K (.ref c_Refused) (.ref c_MeridianError) = some true
  q_Refused_MeridianError : PySem.W.kitOne K (.ref c_Refused) (.ref c_MeridianError) = some true
  u_Refused_BadArgument : PySem.W.exmOne K (.ref c_Refused) (.ref c_BadArgument) = some false
  q_Refused_BadArgument : PySem.W.kitOne K (.ref c_Refused) (.ref c_BadArgument) = some false
  u_Refused_BadBytes : PySem.W.exmOne K (.ref c_Refused) (.ref c_BadBytes) = some false
  q_Refused_BadBytes : PySem.W.kitOne K (.ref c_Refused) (.ref c_BadBytes) = some false
  u_Refused_Refused : PySem.W.exmOne K (.ref c_Refused) (.ref c_Refused) = some true
  q_Refused_Refused : PySem.W.kitOne K (.ref c_Refused) (.ref c_Refused) = some true
  z_len : mg "len" = none
  z_abs : mg "abs" = none
  z_int : mg "int" = none
  z_isinstance : mg "isinstance" = none
  z_bool : mg "bool" = none
  z_all : mg "all" = none
  z_list : mg "list" = none
  z_ValueError : mg "ValueError" = none
  z_range : mg "range" = none
section
variable {P : Program} {w : World} {K : PySem.W.Frag} {mg : Str → Option Value} {base : Heap}
--PART /work/steering/wip/tools/pre.lean


--PART /work/steering/wip/tools/own.lean


--PART /work/steering/wip/parts/num.lean
/-! ### base 128 -/
def vint (n : Int) : List Int := if n < 128 then [n] else (n % 128 + 128) :: vint (n / 128)
termination_by n.toNat
decreasing_by omega
theorem vint_lt {n : Int} (h : n < 128) : vint n = [n] := by rw [vint, if_pos h]
theorem vint_ge {n : Int} (h : ¬ n < 128) : vint n = (n % 128 + 128) :: vint (n / 128) := by rw [vint, if_neg h]
def NB : Int := 128 ^ 100
theorem vint_len : ∀ (k : Nat) (n : Int), n < 128 ^ (k + 1) → (vint n).length ≤ k + 1
  | 0, n, h => by
    have h' : n < 128 := by simpa using h
    rw [vint_lt h']
    exact Nat.le_refl _
  | k + 1, n, h => by
    by_cases c : n < 128
    · rw [vint_lt c]
      show 1 ≤ _
      omega
    · rw [vint_ge c, List.length_cons]
      have := vint_len k (n / 128) (by
        have e : (128 : Int) ^ (k + 1 + 1) = 128 ^ (k + 1) * 128 := Int.pow_succ ..
        rw [e] at h
        exact Int.ediv_lt_of_lt_mul (by decide) h)
      omega
theorem vint_len100 {n : Int} (h : n < NB) : (vint n).length ≤ 100 := vint_len 99 n h
theorem vint_ne (n : Int) : vint n ≠ [] := by
  by_cases c : n < 128
  · rw [vint_lt c]; simp
  · rw [vint_ge c]; simp
theorem vint_pos (n : Int) : 1 ≤ (vint n).length := by
  have := vint_ne n
  cases e : vint n with
  | nil => exact absurd e this
  | cons a r => simp
theorem vint_byte : ∀ (k : Nat) (n : Int), n < 128 ^ (k + 1) → 0 ≤ n → ∀ b ∈ vint n, 0 ≤ b ∧ b < 256
  | 0, n, h, h0, b, hb => by
    have h' : n < 128 := by simpa using h
    rw [vint_lt h'] at hb
    have : b = n := by simpa using hb
    omega
  | k + 1, n, h, h0, b, hb => by
    by_cases c : n < 128
    · rw [vint_lt c] at hb
      have : b = n := by simpa using hb
      omega
    · rw [vint_ge c] at hb
      rcases List.mem_cons.mp hb with e | e
      · omega
      · exact vint_byte k (n / 128) (by
          have e : (128 : Int) ^ (k + 1 + 1) = 128 ^ (k + 1) * 128 := Int.pow_succ ..
          rw [e] at h
          exact Int.ediv_lt_of_lt_mul (by decide) h) (by omega) b e
theorem vint_byte_NB {n : Int} (h : n < NB) (h0 : 0 ≤ n) : ∀ b ∈ vint n, 0 ≤ b ∧ b < 256 := vint_byte 99 n h h0
/-! ### numbers of the law -/
def lawNum (c : Int) : Int := if c < 10 ^ 18 then ([0, 1, 127, 128, 129, 16383, 16384, 16385, c] : List Int).getD (c % 9).toNat 0 else c % 10 ^ 60
theorem lawNum_lt {c : Int} (h : 0 ≤ c) : 0 ≤ lawNum c ∧ lawNum c < 10 ^ 60 := by
  unfold lawNum
  by_cases k : c < 10 ^ 18
  · rw [if_pos k]
    obtain ⟨j, hj, e⟩ : ∃ j : Nat, j < 9 ∧ (c % 9).toNat = j := ⟨_, by omega, rfl⟩
    rw [e]
    match j, hj with
    | 0, _ | 1, _ | 2, _ | 3, _ | 4, _ | 5, _ | 6, _ | 7, _ => exact ⟨by simp, by simp⟩
    | 8, _ => exact ⟨h, by show c < _; omega⟩
  · rw [if_neg k]
    exact ⟨Int.emod_nonneg _ (by decide), Int.emod_lt_of_pos _ (by decide)⟩
theorem num_NB {n : Int} (h : n < 10 ^ 60) : n < NB := Int.lt_of_lt_of_le h (by decide +kernel)
theorem canLay_dints : ∀ ns : List Int, PyData.canLayAll0 (ns.map PyData.int) = true
  | [] => rfl
  | n :: r => by
    show (PyData.canLay0 (.int n) && PyData.canLayAll0 (r.map PyData.int)) = true
    rw [canLay_dints r]
    rfl
theorem depth_dints : ∀ ns : List Int, PyData.depthAll (ns.map PyData.int) = 0
  | [] => by unfold PyData.depthAll; rfl
  | n :: r => by
    show PyData.depthAll (.int n :: r.map PyData.int) = 0
    unfold PyData.depthAll
    rw [depth_dints r]
    unfold PyData.depth
    rfl
theorem shaped_dInts (ns : List Int) : SeqAt.shaped (dInts ns) = true := by
  unfold SeqAt.shaped dInts
  rw [show PyData.canLay0 (.list (ns.map PyData.int)) = true from by unfold PyData.canLay0; exact canLay_dints ns]
  have : PyData.depth (.list (ns.map PyData.int)) = 1 := by
    unfold PyData.depth
    rw [depth_dints]
  rw [this]
  decide

--PART /work/steering/wip/parts/lawnum.lean
/-! ### the law's own helpers -/
def cell (ns : List Int) (k : Int) : Int := ((ns.getD k.toNat 0).natAbs : Int)
theorem cell_nn (ns : List Int) (k : Int) : 0 ≤ cell ns k := Int.natCast_nonneg _
def sp__law_cell (T : Env K mg) : Sp := fun vs H Q E => ∃ (a : Addr) (ns : List Int) (k : Int), vs = [.ref a, .int k] ∧ SqL K H a (ns.map V.int) ∧ 0 ≤ k ∧ Q (.int (cell ns k)) H
theorem ok__law_cell (T : Env K mg) : FnOk P w K mg base (L2.CX P w) 1 T.a__law_cell T.d__law_cell ["script", "k"] (sp__law_cell T) := by
  refine T.F__law_cell.okX sc__law_cell (fun vs H Q E h => by obtain ⟨_, _, _, rfl, _⟩ := h; rfl) (fun cdv A outer s H vs Q E hr h => ?_)
  obtain ⟨a, ns, k, rfl, hS, hk, h1⟩ := h
  refine ⟨_, (pss_cons (ps_if (pt_cmpR op_lt (pv 1) (pe_callB call_len (by rfl) T.z_len (by decide +kernel) (pa_cons (pv 0) pa_nil)) (nomark _)) (pss_one (ps_ret (pe_callB call_abs (by rfl) T.z_abs (by decide +kernel) (pa_cons (pe_callTy call_int1 (by rfl) T.z_int (by decide +kernel) (pa_cons (pe_ix ix_list (pv 0) (pv 1) (fun _ _ => rfl)) pa_nil)) pa_nil)))) pss_nil)
      (pss_one (ps_ret pe_int))), ?_⟩
  obtain ⟨j, rfl⟩ : ∃ j : Nat, k = (j : Int) := ⟨k.toNat, by omega⟩
  have hc : cell ns (j : Int) = ((ns.getD j 0).natAbs : Int) := rfl
  refine ⟨_, rfl, _, rfl, _, _, rfl, .inl ⟨_, hS, rfl⟩, _, _, rfl, rfl, _, rfl, iteD (fun c => ?_) (fun c => ?_)⟩
  · rw [List.length_map] at c
    have hj : j < ns.length := by omega
    refine ⟨_, rfl, _, rfl, a, _, _, _, rfl, rfl, hS, at_of (j := j) (v := V.int (ns.getD j 0)) rfl (by rw [List.getElem?_map, List.getD_eq_getElem?_getD, List.getElem?_eq_getElem hj]; rfl), .inl ⟨_, rfl, _, rfl, ?_⟩⟩
    have e : (if ns.getD j 0 < 0 then -ns.getD j 0 else ns.getD j 0) = cell ns (j : Int) := by
      rw [hc]
      split <;> omega
    show Q (V.int (if ns.getD j 0 < 0 then -ns.getD j 0 else ns.getD j 0)) H
    rw [e]
    exact h1
  · rw [List.length_map] at c
    show Q (.int 0) H
    have e : cell ns (j : Int) = 0 := by
      rw [hc, List.getD_eq_getElem?_getD, List.getElem?_eq_none (by omega)]
      rfl
    rw [e] at h1
    exact h1
def sp__law_is_int (T : Env K mg) : Sp := fun vs H Q E => ∃ (i : Int), vs = [.int i] ∧ Q (.bl true) H
theorem ok__law_is_int (T : Env K mg) : FnOk P w K mg base (L2.CX P w) 1 T.a__law_is_int T.d__law_is_int ["thing"] (sp__law_is_int T) := by
  refine T.F__law_is_int.okX sc__law_is_int (fun vs H Q E h => by obtain ⟨_, rfl, _⟩ := h; rfl) (fun cdv A outer s H vs Q E hr h => ?_)
  obtain ⟨i, rfl, h1⟩ := h
  refine ⟨_, (pss_one (ps_ret (pe_and (pe_callB call_isi (by rfl) T.z_isinstance (by decide +kernel) (pa_cons (pv 0) (pa_cons (pe_bltn (v := .ty "int") (by rfl) T.z_int (by decide +kernel) rfl) pa_nil))) (pe_one (pe_not (pe_callB call_isi (by rfl) T.z_isinstance (by decide +kernel) (pa_cons (pv 0) (pa_cons (pe_bltn (v := .ty "bool") (by rfl) T.z_bool (by decide +kernel) rfl) pa_nil)))))))), ?_⟩
  refine ⟨_, rfl, _, _, _, _, _, rfl, .ty _, .base (.int _), kit_ty (b := "int") (r := true) (by decide +kernel), _, rfl, iteT ?_⟩
  exact ⟨_, rfl, _, _, _, _, _, rfl, .ty _, .base (.int _), kit_ty (b := "bool") (r := false) (by decide +kernel), _, rfl, h1⟩

--PART /work/steering/wip/parts/lawvar.lean
def sp__law_varint (T : Env K mg) : Sp := fun vs H Q E => ∃ n : Int, vs = [.int n] ∧ 0 ≤ n ∧ n < NB ∧ ∀ p H', Same H H' → H p = none → H' p = some (.lst ((vint n).map V.int)) → Q (.ref p) H'
theorem ok__law_varint (T : Env K mg) : FnOk P w K mg base (L2.CX P w) 1 T.a__law_varint T.d__law_varint ["number"] (sp__law_varint T) := by
  refine T.F__law_varint.okX sc__law_varint (fun vs H Q E h => by obtain ⟨n, rfl, _⟩ := h; rfl) (fun cdv A outer s H vs Q E hr h => ?_)
  obtain ⟨n, rfl, hn, hb, h1⟩ := h
  refine ⟨_, (pss_cons (ps_set (i := 1) sc__law_varint.nd rfl (Or.inl rfl) (pe_lst pa_nil))
      (pss_cons (ps_while (passes_of rfl) (pt_cmpR op_gt (pv 0) pe_int (nomark _)) (pss_cons (ps_expr (pe_bm PySem.F.plainAttrs_list PySem.F.slot_list_append PySem.F.type_list_append mt_append (pv 1) (pa_cons (pe_op op_add (pe_op op_mod (pe_callTy call_int1 (by rfl) T.z_int (by decide +kernel) (pa_cons (pv 0) pa_nil)) pe_int) pe_int) pa_nil)))
      (pss_one (ps_set (i := 0) sc__law_varint.nd rfl (Or.inl rfl) (pe_op op_fdiv (pv 0) pe_int)))))
      (pss_cons (ps_expr (pe_bm PySem.F.plainAttrs_list PySem.F.slot_list_append PySem.F.type_list_append mt_append (pv 1) (pa_cons (pv 0) pa_nil)))
      (pss_one (ps_ret (pv 1)))))), ?_⟩
  refine ⟨Nat.zero_le _, fun p np => ?_⟩
  refine ⟨fun m σ H' => ∃ (k : Int) (pre : List Int), m = k.toNat ∧ σ = [some (.int k), some (.ref p)] ∧ 0 ≤ k ∧ pre ++ vint k = vint n ∧ Same H H' ∧ H' p = some (.lst (pre.map V.int)), ⟨_, n, [], rfl, rfl, hn, rfl, same_new np, upd_same⟩, ?_⟩
  rintro m σ H' ⟨k, pre, rfl, rfl, hk, hp, hs, hl⟩
  have hlen : pre.length + (vint k).length ≤ 100 := by
    rw [← List.length_append, hp]
    exact vint_len100 hb
  have hpos := vint_pos k
  refine ⟨_, rfl, _, _, rfl, rfl, _, rfl, iteD (fun c => ?_) (fun c => ?_)⟩
  · refine ⟨fun σ' H' => _, fun _ _ h => h, ?_⟩
    refine ⟨_, rfl, .inl ⟨rfl, _, SqL.of hl⟩, _, rfl, .inl ⟨_, rfl, _, _, rfl, rfl, by show (0 : Int) < _; decide, _, _, rfl, rfl, _, _, _, rfl, rfl, hl, by rw [List.length_map]; exact small1000 (by omega), ?_⟩⟩
    refine ⟨_, rfl, _, _, rfl, rfl, ⟨by decide, by decide⟩, ?_⟩
    refine ⟨(k / 128).toNat, by omega, k / 128, pre ++ [k % 128 + 128], rfl, rfl, by omega, ?_, same_mut hs np, ?_⟩
    · rw [List.append_assoc, ← hp, vint_ge (n := k) (by omega)]
      rfl
    · rw [upd_same, List.map_append]
      rfl
  · refine ⟨_, rfl, .inl ⟨rfl, _, SqL.of hl⟩, _, rfl, _, _, _, rfl, rfl, hl, by rw [List.length_map]; exact small1000 (by omega), ?_⟩
    refine ⟨_, rfl, ?_⟩
    refine h1 p _ (same_mut hs np) np ?_
    rw [upd_same, ← hp, vint_lt (n := k) (by omega), List.map_append]
    rfl

--PART /work/steering/wip/parts/lawnumber.lean
def sp__law_number (T : Env K mg) : Sp := fun vs H Q E => ∃ c : Int, vs = [.int c] ∧ 0 ≤ c ∧ ∀ H', Same H H' → Q (.int (lawNum c)) H'
theorem ok__law_number (T : Env K mg) : FnOk P w K mg base (L2.CX P w) 1 T.a__law_number T.d__law_number ["cell"] (sp__law_number T) := by
  refine T.F__law_number.okX sc__law_number (fun vs H Q E h => by obtain ⟨n, rfl, _⟩ := h; rfl) (fun cdv A outer s H vs Q E hr h => ?_)
  obtain ⟨c, rfl, hc, h1⟩ := h
  refine ⟨_, (pss_cons (ps_if (pt_cmpR op_lt (pv 0) (pe_op op_pow pe_int pe_int) (nomark _)) (pss_one (ps_ret (pe_ix ix_list (pe_lst (pa_cons pe_int (pa_cons pe_int (pa_cons pe_int (pa_cons pe_int (pa_cons pe_int (pa_cons pe_int (pa_cons pe_int (pa_cons pe_int (pa_cons (pv 0) pa_nil)))))))))) (pe_op op_mod (pe_callTy call_int1 (by rfl) T.z_int (by decide +kernel) (pa_cons (pv 0) pa_nil)) pe_int) (fun _ _ => rfl)))) pss_nil)
      (pss_one (ps_ret (pe_op op_mod (pe_callTy call_int1 (by rfl) T.z_int (by decide +kernel) (pa_cons (pv 0) pa_nil)) (pe_op op_pow pe_int pe_int))))), ?_⟩
  refine ⟨_, rfl, _, _, rfl, rfl, ⟨by decide, by decide, by decide⟩, _, _, rfl, rfl, _, rfl, iteD (fun k => ?_) (fun k => ?_)⟩
  · have k : c < 10 ^ 18 := k
    refine ⟨_, rfl, (by show 9 ≤ sizeLine; decide), fun p np => ?_⟩
    refine ⟨_, rfl, .inl ⟨_, rfl, _, _, rfl, rfl, by show (0 : Int) < _; decide, p, _, _, .int (lawNum c), rfl, rfl, SqL.of upd_same, at_of (j := (c % 9).toNat) (by omega) ?_, h1 _ (same_new np)⟩⟩
    unfold lawNum
    rw [if_pos k]
    obtain ⟨j, hj, e⟩ : ∃ j : Nat, j < 9 ∧ (c % 9).toNat = j := ⟨_, by omega, rfl⟩
    rw [e]
    match j, hj with
    | 0, _ | 1, _ | 2, _ | 3, _ | 4, _ | 5, _ | 6, _ | 7, _ | 8, _ => simp
  · have k : ¬ c < 10 ^ 18 := k
    refine ⟨_, rfl, .inl ⟨_, rfl, _, _, rfl, rfl, ⟨by decide, by decide, by decide⟩, _, _, rfl, rfl, by show (0 : Int) < _; decide, ?_⟩⟩
    have e : lawNum c = c % 10 ^ 60 := if_neg k
    have := h1 H (Same.refl H)
    rw [e] at this
    exact this

--PART /work/steering/wip/parts/encnum.lean
def sp_encode_number (T : Env K mg) : Sp := fun vs H Q E => ∃ n : Int, vs = [.int n] ∧ n < NB ∧ (0 ≤ n → ∀ p H', Same H H' → H p = none → H' p = some (.lst ((vint n).map V.int)) → Q (.ref p) H') ∧ (n < 0 → E (.ref T.c_BadArgument) none H)
theorem ok_encode_number (T : Env K mg) : FnOk P w K mg base (L2.CX P w) 1 T.a_encode_number T.d_encode_number ["number"] (sp_encode_number T) := by
  refine T.F_encode_number.okX sc_encode_number (fun vs H Q E h => by obtain ⟨n, rfl, _⟩ := h; rfl) (fun cdv A outer s H vs Q E hr h => ?_)
  obtain ⟨n, rfl, hb, h1, h2⟩ := h
  refine ⟨_, (pss_cons (ps_if (pt_cmpR op_lt (pv 0) pe_int (nomark _)) (pss_one (ps_raise rfl (takes_of rfl rfl rfl rfl) (pmk_own PySem.F.excBase_ValueError T.e_BadArgument.xP T.e_BadArgument.gC T.e_BadArgument.kC (raises_own T.e_BadArgument.bP T.e_BadArgument.tP) (by exact rfl)))) pss_nil)
      (pss_cons (ps_set (i := 1) sc_encode_number.nd rfl (Or.inl rfl) (pe_lst pa_nil))
      (pss_cons (ps_while (passes_of rfl) (pt_cmpR op_ge (pv 0) pe_int (nomark _)) (pss_cons (ps_expr (pe_bm PySem.F.plainAttrs_list PySem.F.slot_list_append PySem.F.type_list_append mt_append (pv 1) (pa_cons (pe_op op_add (pe_op op_mod (pv 0) pe_int) pe_int) pa_nil)))
      (pss_one (ps_set (i := 0) sc_encode_number.nd rfl (Or.inl rfl) (pe_op op_fdiv (pv 0) pe_int)))))
      (pss_cons (ps_expr (pe_bm PySem.F.plainAttrs_list PySem.F.slot_list_append PySem.F.type_list_append mt_append (pv 1) (pa_cons (pv 0) pa_nil)))
      (pss_one (ps_ret (pv 1))))))), ?_⟩
  refine ⟨_, rfl, _, _, rfl, rfl, _, rfl, ite2 (fun c => h2 (of_decide_eq_true c)) (fun c => ?_)⟩
  have hn : 0 ≤ n := by
    have := of_decide_eq_false (eq_false_of_ne_true c)
    omega
  refine ⟨Nat.zero_le _, fun p np => ?_⟩
  refine ⟨fun m σ H' => ∃ (k : Int) (pre : List Int), m = k.toNat ∧ σ = [some (.int k), some (.ref p)] ∧ 0 ≤ k ∧ pre ++ vint k = vint n ∧ Same H H' ∧ H' p = some (.lst (pre.map V.int)), ⟨_, n, [], rfl, rfl, hn, rfl, same_new np, upd_same⟩, ?_⟩
  rintro m σ H' ⟨k, pre, rfl, rfl, hk, hp, hs, hl⟩
  have hlen : pre.length + (vint k).length ≤ 100 := by
    rw [← List.length_append, hp]
    exact vint_len100 hb
  have hpos := vint_pos k
  refine ⟨_, rfl, _, _, rfl, rfl, _, rfl, ite2 (fun c => ?_) (fun c => ?_)⟩
  · have c := of_decide_eq_true c
    refine ⟨fun σ' H' => _, fun _ _ h => h, ?_⟩
    refine ⟨_, rfl, .inl ⟨rfl, _, SqL.of hl⟩, _, rfl, _, _, rfl, rfl, by show (0 : Int) < _; decide, _, _, rfl, rfl, _, _, _, rfl, rfl, hl, by rw [List.length_map]; exact small1000 (by omega), ?_⟩
    refine ⟨_, rfl, _, _, rfl, rfl, ⟨by decide, by decide⟩, ?_⟩
    refine ⟨(k / 128).toNat, by omega, k / 128, pre ++ [k % 128 + 128], rfl, rfl, by omega, ?_, same_mut hs np, ?_⟩
    · rw [List.append_assoc, ← hp, vint_ge (n := k) (by omega)]
      rfl
    · rw [upd_same, List.map_append]
      rfl
  · have c := of_decide_eq_false (eq_false_of_ne_true c)
    refine ⟨_, rfl, .inl ⟨rfl, _, SqL.of hl⟩, _, rfl, _, _, _, rfl, rfl, hl, by rw [List.length_map]; exact small1000 (by omega), ?_⟩
    refine ⟨_, rfl, ?_⟩
    refine h1 hn p _ (same_mut hs np) np ?_
    rw [upd_same, ← hp, vint_lt (n := k) (by omega), List.map_append]
    rfl

--PART /work/steering/wip/parts/k01.lean
def sp__law_is_block (T : Env K mg) : Sp := fun vs H Q E => ∃ (a : Addr) (ns : List Int), vs = [.ref a] ∧ H a = some (.lst (ns.map V.int)) ∧ ns.length ≤ 1000 ∧ (∀ n ∈ ns, 0 ≤ n ∧ n < 256) ∧ ∀ H', Same H H' → Q (.bl true) H'
theorem ok__law_is_block (T : Env K mg) : FnOk P w K mg base (L2.CX P w) 2 T.a__law_is_block T.d__law_is_block ["thing"] (sp__law_is_block T) := by
  refine T.F__law_is_block.okX sc__law_is_block (fun vs H Q E h => by obtain ⟨_, _, rfl, _⟩ := h; rfl) (fun cdv A outer s H vs Q E hr h => ?_)
  obtain ⟨a, ns, rfl, hS, hlen, hb, h1⟩ := h
  have hu64 := hu64_of hr
  have G__law_is_int := ok__law_is_int (P := P) (w := w) (base := base) T
  refine ⟨_, (pss_cons (ps_if (pt_not (pt_val (pe_callB call_isi (by rfl) T.z_isinstance (by decide +kernel) (pa_cons (pv 0) (pa_cons (pe_bltn (v := .ty "list") (by rfl) T.z_list (by decide +kernel) rfl) pa_nil))))) (pss_one (ps_ret pe_bl)) pss_nil)
      (pss_one (ps_ret (pe_callB (cr_all rfl) (by rfl) T.z_all (by decide +kernel) (pa_cons (pe_lc (own := [("byte", 1)]) (by rfl) sc__law_is_block.nd (pi_list (pv 0)) (blkOk_by (own := [("byte", 1)]) (N := ["thing", "byte"]) (sc := defScope s__law_is_block) (by decide +kernel)) (fun _ _ _ _ _ => (pg_name (i := 1) sc__law_is_block.nd rfl (Or.inl rfl))) (fun _ _ _ _ _ => pts_nil) (fun _ _ _ _ _ => (pe_and (pe_call G__law_is_int (hr.mono (by decide)) rfl T.g__law_is_int T.F__law_is_int.kp T.b__law_is_int .nil passL (pa_cons (pv 1) pa_nil)) (pe_one (pe_chain op_le op_lt pe_int (pv 1) pe_int))))) pa_nil))))), ?_⟩
  refine ⟨_, rfl, _, _, _, _, _, rfl, .ty _, .base (.lst hS), kit_ty (b := "list") (r := true) (by decide +kernel), _, rfl, ?_⟩
  refine ⟨_, rfl, a, rfl, ⟨_, SqL.of hS⟩, fun D hD => lc_list (K := K) (a := a) (xs := ns.map V.int) (fun i H' => Same H H' ∧ H' D = some (.lst ((List.replicate i true).map V.bl))) ⟨same_new hD, upd_same⟩ (fun i H' _ h => SqL.of (h.1 _ _ hS)) ?_ ?_⟩
  · rintro i x H' hx ⟨hs, hl⟩
    obtain ⟨n, hn, rfl⟩ : ∃ n, ns[i]? = some n ∧ x = V.int n := by
      rw [List.getElem?_map] at hx
      cases e : ns[i]? with
      | none => rw [e] at hx; cases hx
      | some u => rw [e] at hx; exact ⟨u, rfl, (Option.some.inj hx).symm⟩
    have hi : i < ns.length := (List.getElem?_eq_some_iff.mp hn).1
    have hbn := hb n (List.mem_of_getElem? hn)
    refine ⟨rfl, yes_if ?_⟩
    refine ⟨_, rfl, n, rfl, _, rfl, iteT ?_⟩
    refine ⟨_, rfl, _, _, rfl, rfl, _, rfl, ifT (decide_eq_true hbn.1) ⟨_, _, rfl, rfl, ?_⟩⟩
    refine ⟨_, hl, by rw [List.length_map, List.length_replicate]; exact small1000 (by omega), same_mut hs hD, ?_⟩
    have e : V.bl (decide (n < 256)) = V.bl true := by rw [decide_eq_true hbn.2]
    rw [upd_same]
    show some (HO.lst (List.map V.bl (List.replicate i true) ++ [V.bl (decide (n < 256))])) = _
    rw [e, List.replicate_succ', List.map_append]
    rfl
  · rintro H' ⟨hs, hl⟩
    refine ⟨D, List.replicate (ns.map V.int).length true, rfl, SqL.of hl, ?_⟩
    have e : (List.replicate (ns.map V.int).length true).all id = true := by simp
    show Q (V.bl _) H'
    rw [e]
    exact h1 H' hs
def sp__law_refused (T : Env K mg) : Sp := fun vs H Q E => ∃ n : Int, vs = [.int n] ∧ n < 0 ∧ ∀ H', Same H H' → Q (.bl true) H'
theorem ok__law_refused (T : Env K mg) : FnOk P w K mg base (L2.CX P w) 3 T.a__law_refused T.d__law_refused ["number"] (sp__law_refused T) := by
  refine T.F__law_refused.okX sc__law_refused (fun vs H Q E h => by obtain ⟨_, rfl, _⟩ := h; rfl) (fun cdv A outer s H vs Q E hr h => ?_)
  obtain ⟨n, rfl, hn, h1⟩ := h
  have hu64 := hu64_of hr
  have G_encode_number := ok_encode_number (P := P) (w := w) (base := base) T
  refine ⟨_, (pss_cons (ps_try_as (i := 1) rfl rfl sc__law_refused.nd rfl rfl ⟨rfl, by decide, .inl T.e_MeridianError.gC⟩ takes0 (fun W pn xe tk po => (pss_one (ps_expr (pe_callS G_encode_number (hr.mono (by decide)) rfl T.g_encode_number T.F_encode_number.kp T.b_encode_number (fun σ => passAt tk σ) (pa_cons (pv 0) pa_nil))))) (fun a oe cls d pn hz hf => (pss_one (ps_ret (pe_and (pe_callB (call_isG hz hf) (by rfl) T.z_isinstance (by decide +kernel) (pa_cons (pv 1) (pa_cons (pe_glob (v := .ref T.c_BadArgument) rfl T.e_BadArgument.gC rfl) pa_nil))) (pe_and (pe_callB (call_isG hz hf) (by rfl) T.z_isinstance (by decide +kernel) (pa_cons (pv 1) (pa_cons (pe_bltn (v := .ty "ValueError") (by rfl) T.z_ValueError (by decide +kernel) rfl) pa_nil))) (pe_one (pe_not (pe_callB (call_isG hz hf) (by rfl) T.z_isinstance (by decide +kernel) (pa_cons (pv 1) (pa_cons (pe_tup (pa_cons (pe_glob (v := .ref T.c_BadBytes) rfl T.e_BadBytes.gC rfl) (pa_cons (pe_glob (v := .ref T.c_Refused) rfl T.e_Refused.gC rfl) pa_nil))) pa_nil)))))))))))
      (pss_one (ps_ret pe_bl))), ?_⟩
  refine ⟨_, rfl, n, rfl, Int.lt_of_lt_of_le hn (by decide +kernel), fun c => absurd c (by omega), fun _ => ?_⟩
  refine ⟨true, T.u_BadArgument_MeridianError, fun _ x _ => ?_, fun q => Bool.noConfusion q⟩
  refine ⟨_, rfl, T.c_BadArgument, true, rfl, rfl, T.e_BadArgument.cP, .inl ⟨_, _, rfl, .own _, T.q_BadArgument_BadArgument, _, rfl, iteT ?_⟩⟩
  refine ⟨_, rfl, T.c_BadArgument, true, rfl, rfl, T.e_BadArgument.cP, .inl ⟨_, _, rfl, .ty _, T.e_BadArgument.vP, _, rfl, iteT ?_⟩⟩
  refine ⟨_, rfl, (by show 2 ≤ sizeLine; decide), fun tp ntp => ⟨T.c_BadArgument, false, rfl, rfl, T.e_BadArgument.cP, .inr ⟨tp, _, _, rfl, upd_same, .cons (.own _) (.cons (.own _) .nil), kitAny_cons T.q_BadArgument_BadBytes (fun _ => kitAny_cons T.q_BadArgument_Refused (fun _ => kitAny_nil) (fun h => nomatch h)) (fun h => nomatch h), _, rfl, ?_⟩⟩⟩
  exact h1 _ (same_new ntp)
def spLaw (K : PySem.W.Frag) : Sp := fun vs H Q _ => ∃ (a : Addr) (ns : List Int), vs = [.ref a] ∧ SqL K H a (ns.map V.int) ∧ ns.length ≤ 63 ∧ ∀ H', Q (.bl true) H'
def sp_law (T : Env K mg) : Sp := spLaw K
theorem ok_law (T : Env K mg) : FnOk P w K mg base CX0 4 T.a_law T.d_law ["script"] (sp_law T) := by
  refine T.F_law.ok sc_law (fun vs H Q E h => by obtain ⟨_, _, rfl, _⟩ := h; rfl) (fun cdv A outer s H vs Q E hr h => ?_)
  obtain ⟨a, ns, rfl, hS, hlen, h1⟩ := h
  have hu64 := hu64_of hr
  have G__law_number := ok__law_number (P := P) (w := w) (base := base) T
  have G_encode_number := ok_encode_number (P := P) (w := w) (base := base) T
  have G__law_cell := ok__law_cell (P := P) (w := w) (base := base) T
  have G__law_refused := ok__law_refused (P := P) (w := w) (base := base) T
  have G__law_is_block := ok__law_is_block (P := P) (w := w) (base := base) T
  have G__law_varint := ok__law_varint (P := P) (w := w) (base := base) T
  refine ⟨_, (pss_cons (ps_for PassesOwn.never rfl (pi_range1 rfl T.z_range (pa_cons pe_int pa_nil)) (pg_name (i := 1) sc_law.nd rfl (Or.inl rfl)) (pss_cons (ps_set (i := 2) sc_law.nd rfl (Or.inl rfl) (pe_call G__law_number (hr.mono (by decide)) rfl T.g__law_number T.F__law_number.kp T.b__law_number .nil passL (pa_cons (pe_call G__law_cell (hr.mono (by decide)) rfl T.g__law_cell T.F__law_cell.kp T.b__law_cell .nil passL (pa_cons (pv 0) (pa_cons (pv 1) pa_nil))) pa_nil)))
      (pss_cons (ps_set (i := 3) sc_law.nd rfl (Or.inl rfl) (pe_call G_encode_number (hr.mono (by decide)) rfl T.g_encode_number T.F_encode_number.kp T.b_encode_number .nil passL (pa_cons (pv 2) pa_nil)))
      (pss_cons (ps_if (PW.pt (pw_or (pt_not (pt_val (pe_call G__law_is_block (hr.mono (by decide)) rfl T.g__law_is_block T.F__law_is_block.kp T.b__law_is_block .nil passL (pa_cons (pv 3) pa_nil)))) (pw_or1 (pt_cmpR (op_neD hu64) (pv 3) (pe_call G__law_varint (hr.mono (by decide)) rfl T.g__law_varint T.F__law_varint.kp T.b__law_varint .nil passL (pa_cons (pv 2) pa_nil)) (nomark _))))) (pss_one (ps_ret pe_bl)) pss_nil)
      (pss_one (ps_if (pt_not (pt_val (pe_call G__law_refused (hr.mono (by decide)) rfl T.g__law_refused T.F__law_refused.kp T.b__law_refused .nil passL (pa_cons (pe_op op_sub (pe_un un_neg pe_int) (pv 2)) pa_nil)))) (pss_one (ps_ret pe_bl)) pss_nil))))))
      (pss_one (ps_ret pe_bl))), ?_⟩
  refine ⟨6, rfl, by decide, by decide, for_range (n := 6) (fun i σ H' => ∃ v1 v2 v3, σ = [some (.ref a), v1, v2, v3] ∧ Same H H') ⟨none, none, none, rfl, Same.refl H⟩ ?_ ?_⟩
  · rintro i σ H1 hi ⟨v1, v2, v3, rfl, s1⟩
    refine ⟨_, rfl, _, rfl, a, ns, _, rfl, s1.seq hS, by omega, _, rfl, cell_nn _ _, fun H2 s2 => ?_⟩
    obtain ⟨n0, nlt⟩ := lawNum_lt (cell_nn ns (0 + i))
    generalize lawNum (cell ns (0 + i)) = n at n0 nlt
    have nb := num_NB nlt
    refine ⟨_, rfl, n, rfl, nb, fun _ p H3 s3 np hl => ?_, fun c => absurd c (by omega)⟩
    refine ⟨_, rfl, p, _, rfl, hl, Nat.le_trans (vint_len100 nb) (by decide), vint_byte_NB nb n0, fun H4 s4 => ⟨_, rfl, ifF rfl ?_⟩⟩
    refine ⟨_, rfl, _, rfl, n, rfl, n0, nb, fun p2 H5 s5 np2 hl2 => ⟨_, _, dp_ints (SqL.of (s5 _ _ (s4 _ _ hl))), dp_ints (SqL.of hl2), shaped_dInts _, shaped_dInts _, _, rfl, ifF (by rw [eqv_dInts]; simp) ?_⟩⟩
    refine ⟨_, rfl, _, rfl, _, _, rfl, rfl, _, rfl, by omega, fun H6 s6 => ⟨_, rfl, ifF rfl ?_⟩⟩
    exact ⟨_, _, _, rfl, ((((s1.trans s2).trans s3).trans s4).trans s5).trans s6⟩
  · rintro σ H1 ⟨v1, v2, v3, rfl, s1⟩
    exact h1 _

end
theorem all_mk {l : PySem.W.OpenLaw} {w : World} {K : PySem.W.Frag} {h : Heap} {mg : Str → Option Value} {fa C_MeridianError C_BadArgument C_BadBytes C_Refused f_encode_number f__law_cell f__law_is_int f__law_is_block f__law_varint f__law_number f__law_refused f_law : Addr} (X : K.In h) (G : h.Ns mainGlobals mg) (hfa : mg "law" = some (.ref fa))
    {od_encode_number an_encode_number : Option Addr} {sl_encode_number : Array (Option Value)} {oc_encode_number kV_encode_number dc_encode_number pm_encode_number cd_encode_number ct_encode_number : Value}
    {od__law_cell an__law_cell : Option Addr} {sl__law_cell : Array (Option Value)} {oc__law_cell kV__law_cell dc__law_cell pm__law_cell cd__law_cell ct__law_cell : Value}
    {od__law_is_int an__law_is_int : Option Addr} {sl__law_is_int : Array (Option Value)} {oc__law_is_int kV__law_is_int dc__law_is_int pm__law_is_int cd__law_is_int ct__law_is_int : Value}
    {od__law_is_block an__law_is_block : Option Addr} {sl__law_is_block : Array (Option Value)} {oc__law_is_block kV__law_is_block dc__law_is_block pm__law_is_block cd__law_is_block ct__law_is_block : Value}
    {od__law_varint an__law_varint : Option Addr} {sl__law_varint : Array (Option Value)} {oc__law_varint kV__law_varint dc__law_varint pm__law_varint cd__law_varint ct__law_varint : Value}
    {od__law_number an__law_number : Option Addr} {sl__law_number : Array (Option Value)} {oc__law_number kV__law_number dc__law_number pm__law_number cd__law_number ct__law_number : Value}
    {od__law_refused an__law_refused : Option Addr} {sl__law_refused : Array (Option Value)} {oc__law_refused kV__law_refused dc__law_refused pm__law_refused cd__law_refused ct__law_refused : Value}
    {od_law an_law : Option Addr} {sl_law : Array (Option Value)} {oc_law kV_law dc_law pm_law cd_law ct_law : Value}
    (mg_MeridianError : PySem.W.nsIn K mainGlobals "MeridianError" = some (some (.ref C_MeridianError)))
    (x_MeridianError : PySem.W.excIn K C_MeridianError [.type "ValueError", .type "Exception", .type "BaseException", .type "object"] "ValueError.__new__" = true)
    (kc_MeridianError : PySem.W.keepIn K (.ref C_MeridianError) = true)
    (bp_MeridianError : PySem.W.subIn K (.ref C_MeridianError) (.type "BaseException") = some true)
    (tp_MeridianError : PySem.W.typeIn K (.ref C_MeridianError) = some (.type "type"))
    (ip_MeridianError : PySem.W.isClsIn K C_MeridianError = true)
    (ga_MeridianError : PySem.W.findIn K (.ref C_MeridianError) "__getattribute__" = some (some (.builtin "BaseException.__getattribute__")))
    (gt_MeridianError : PySem.W.findIn K (.ref C_MeridianError) "__getattr__" = some none)
    (hd_MeridianError : PySem.W.hasDictIn K C_MeridianError = true)
    (ca_MeridianError : PySem.W.findIn K (.ref C_MeridianError) "__class__" = some (some (.builtin "object.__class__")))
    (mo_MeridianError : PySem.W.mroIn K C_MeridianError (.type "object") = some true)
    (ve_MeridianError : PySem.W.subIn K (.ref C_MeridianError) (.type "ValueError") = some true)
    (u_MeridianError_MeridianError : PySem.W.subIn K (.ref C_MeridianError) (.ref C_MeridianError) = some true)
    (u_MeridianError_BadArgument : PySem.W.subIn K (.ref C_MeridianError) (.ref C_BadArgument) = some false)
    (u_MeridianError_BadBytes : PySem.W.subIn K (.ref C_MeridianError) (.ref C_BadBytes) = some false)
    (u_MeridianError_Refused : PySem.W.subIn K (.ref C_MeridianError) (.ref C_Refused) = some false)
    (mg_BadArgument : PySem.W.nsIn K mainGlobals "BadArgument" = some (some (.ref C_BadArgument)))
    (x_BadArgument : PySem.W.excIn K C_BadArgument [.type "ValueError", .type "Exception", .type "BaseException", .type "object"] "ValueError.__new__" = true)
    (kc_BadArgument : PySem.W.keepIn K (.ref C_BadArgument) = true)
    (bp_BadArgument : PySem.W.subIn K (.ref C_BadArgument) (.type "BaseException") = some true)
    (tp_BadArgument : PySem.W.typeIn K (.ref C_BadArgument) = some (.type "type"))
    (ip_BadArgument : PySem.W.isClsIn K C_BadArgument = true)
    (ga_BadArgument : PySem.W.findIn K (.ref C_BadArgument) "__getattribute__" = some (some (.builtin "BaseException.__getattribute__")))
    (gt_BadArgument : PySem.W.findIn K (.ref C_BadArgument) "__getattr__" = some none)
    (hd_BadArgument : PySem.W.hasDictIn K C_BadArgument = true)
    (ca_BadArgument : PySem.W.findIn K (.ref C_BadArgument) "__class__" = some (some (.builtin "object.__class__")))
    (mo_BadArgument : PySem.W.mroIn K C_BadArgument (.type "object") = some true)
    (ve_BadArgument : PySem.W.subIn K (.ref C_BadArgument) (.type "ValueError") = some true)
    (u_BadArgument_MeridianError : PySem.W.subIn K (.ref C_BadArgument) (.ref C_MeridianError) = some true)
    (u_BadArgument_BadArgument : PySem.W.subIn K (.ref C_BadArgument) (.ref C_BadArgument) = some true)
    (u_BadArgument_BadBytes : PySem.W.subIn K (.ref C_BadArgument) (.ref C_BadBytes) = some false)
    (u_BadArgument_Refused : PySem.W.subIn K (.ref C_BadArgument) (.ref C_Refused) = some false)
    (mg_BadBytes : PySem.W.nsIn K mainGlobals "BadBytes" = some (some (.ref C_BadBytes)))
    (x_BadBytes : PySem.W.excIn K C_BadBytes [.type "ValueError", .type "Exception", .type "BaseException", .type "object"] "ValueError.__new__" = true)
    (kc_BadBytes : PySem.W.keepIn K (.ref C_BadBytes) = true)
    (bp_BadBytes : PySem.W.subIn K (.ref C_BadBytes) (.type "BaseException") = some true)
    (tp_BadBytes : PySem.W.typeIn K (.ref C_BadBytes) = some (.type "type"))
    (ip_BadBytes : PySem.W.isClsIn K C_BadBytes = true)
    (ga_BadBytes : PySem.W.findIn K (.ref C_BadBytes) "__getattribute__" = some (some (.builtin "BaseException.__getattribute__")))
    (gt_BadBytes : PySem.W.findIn K (.ref C_BadBytes) "__getattr__" = some none)
    (hd_BadBytes : PySem.W.hasDictIn K C_BadBytes = true)
    (ca_BadBytes : PySem.W.findIn K (.ref C_BadBytes) "__class__" = some (some (.builtin "object.__class__")))
    (mo_BadBytes : PySem.W.mroIn K C_BadBytes (.type "object") = some true)
    (ve_BadBytes : PySem.W.subIn K (.ref C_BadBytes) (.type "ValueError") = some true)
    (u_BadBytes_MeridianError : PySem.W.subIn K (.ref C_BadBytes) (.ref C_MeridianError) = some true)
    (u_BadBytes_BadArgument : PySem.W.subIn K (.ref C_BadBytes) (.ref C_BadArgument) = some false)
    (u_BadBytes_BadBytes : PySem.W.subIn K (.ref C_BadBytes) (.ref C_BadBytes) = some true)
    (u_BadBytes_Refused : PySem.W.subIn K (.ref C_BadBytes) (.ref C_Refused) = some false)
    (mg_Refused : PySem.W.nsIn K mainGlobals "Refused" = some (some (.ref C_Refused)))
    (x_Refused : PySem.W.excIn K C_Refused [.type "ValueError", .type "Exception", .type "BaseException", .type "object"] "ValueError.__new__" = true)
    (kc_Refused : PySem.W.keepIn K (.ref C_Refused) = true)
    (bp_Refused : PySem.W.subIn K (.ref C_Refused) (.type "BaseException") = some true)
    (tp_Refused : PySem.W.typeIn K (.ref C_Refused) = some (.type "type"))
    (ip_Refused : PySem.W.isClsIn K C_Refused = true)
    (ga_Refused : PySem.W.findIn K (.ref C_Refused) "__getattribute__" = some (some (.builtin "BaseException.__getattribute__")))
    (gt_Refused : PySem.W.findIn K (.ref C_Refused) "__getattr__" = some none)
    (hd_Refused : PySem.W.hasDictIn K C_Refused = true)
    (ca_Refused : PySem.W.findIn K (.ref C_Refused) "__class__" = some (some (.builtin "object.__class__")))
    (mo_Refused : PySem.W.mroIn K C_Refused (.type "object") = some true)
    (ve_Refused : PySem.W.subIn K (.ref C_Refused) (.type "ValueError") = some true)
    (u_Refused_MeridianError : PySem.W.subIn K (.ref C_Refused) (.ref C_MeridianError) = some true)
    (u_Refused_BadArgument : PySem.W.subIn K (.ref C_Refused) (.ref C_BadArgument) = some false)
    (u_Refused_BadBytes : PySem.W.subIn K (.ref C_Refused) (.ref C_BadBytes) = some false)
    (u_Refused_Refused : PySem.W.subIn K (.ref C_Refused) (.ref C_Refused) = some true)
    (cn : PySem.W.specialIn K (.builtin "object.__class__") "__get__" = some (some (.builtin "getset_descriptor.__get__")))
    (ct : PySem.W.takesIn K (.builtin "object.__class__") = some true)
    (a_encode_number : PySem.W.nsIn K mainGlobals "encode_number" = some (some (.ref f_encode_number)))
    (l_encode_number : K.lookup f_encode_number = some ⟨oc_encode_number, od_encode_number, .func (PySem.W.fnOf "encode_number" "encode_number" (defArgs s_encode_number) (defBody s_encode_number) (defScope s_encode_number) .none kV_encode_number dc_encode_number pm_encode_number an_encode_number cd_encode_number ct_encode_number), sl_encode_number⟩)
    (c_encode_number : PySem.W.codeIn K cd_encode_number "encode_number" = true)
    (k_encode_number : PySem.W.keepIn K (.ref f_encode_number) = true)
    (a__law_cell : PySem.W.nsIn K mainGlobals "_law_cell" = some (some (.ref f__law_cell)))
    (l__law_cell : K.lookup f__law_cell = some ⟨oc__law_cell, od__law_cell, .func (PySem.W.fnOf "_law_cell" "_law_cell" (defArgs s__law_cell) (defBody s__law_cell) (defScope s__law_cell) .none kV__law_cell dc__law_cell pm__law_cell an__law_cell cd__law_cell ct__law_cell), sl__law_cell⟩)
    (c__law_cell : PySem.W.codeIn K cd__law_cell "_law_cell" = true)
    (k__law_cell : PySem.W.keepIn K (.ref f__law_cell) = true)
    (a__law_is_int : PySem.W.nsIn K mainGlobals "_law_is_int" = some (some (.ref f__law_is_int)))
    (l__law_is_int : K.lookup f__law_is_int = some ⟨oc__law_is_int, od__law_is_int, .func (PySem.W.fnOf "_law_is_int" "_law_is_int" (defArgs s__law_is_int) (defBody s__law_is_int) (defScope s__law_is_int) .none kV__law_is_int dc__law_is_int pm__law_is_int an__law_is_int cd__law_is_int ct__law_is_int), sl__law_is_int⟩)
    (c__law_is_int : PySem.W.codeIn K cd__law_is_int "_law_is_int" = true)
    (k__law_is_int : PySem.W.keepIn K (.ref f__law_is_int) = true)
    (a__law_is_block : PySem.W.nsIn K mainGlobals "_law_is_block" = some (some (.ref f__law_is_block)))
    (l__law_is_block : K.lookup f__law_is_block = some ⟨oc__law_is_block, od__law_is_block, .func (PySem.W.fnOf "_law_is_block" "_law_is_block" (defArgs s__law_is_block) (defBody s__law_is_block) (defScope s__law_is_block) .none kV__law_is_block dc__law_is_block pm__law_is_block an__law_is_block cd__law_is_block ct__law_is_block), sl__law_is_block⟩)
    (c__law_is_block : PySem.W.codeIn K cd__law_is_block "_law_is_block" = true)
    (k__law_is_block : PySem.W.keepIn K (.ref f__law_is_block) = true)
    (a__law_varint : PySem.W.nsIn K mainGlobals "_law_varint" = some (some (.ref f__law_varint)))
    (l__law_varint : K.lookup f__law_varint = some ⟨oc__law_varint, od__law_varint, .func (PySem.W.fnOf "_law_varint" "_law_varint" (defArgs s__law_varint) (defBody s__law_varint) (defScope s__law_varint) .none kV__law_varint dc__law_varint pm__law_varint an__law_varint cd__law_varint ct__law_varint), sl__law_varint⟩)
    (c__law_varint : PySem.W.codeIn K cd__law_varint "_law_varint" = true)
    (k__law_varint : PySem.W.keepIn K (.ref f__law_varint) = true)
    (a__law_number : PySem.W.nsIn K mainGlobals "_law_number" = some (some (.ref f__law_number)))
    (l__law_number : K.lookup f__law_number = some ⟨oc__law_number, od__law_number, .func (PySem.W.fnOf "_law_number" "_law_number" (defArgs s__law_number) (defBody s__law_number) (defScope s__law_number) .none kV__law_number dc__law_number pm__law_number an__law_number cd__law_number ct__law_number), sl__law_number⟩)
    (c__law_number : PySem.W.codeIn K cd__law_number "_law_number" = true)
    (k__law_number : PySem.W.keepIn K (.ref f__law_number) = true)
    (a__law_refused : PySem.W.nsIn K mainGlobals "_law_refused" = some (some (.ref f__law_refused)))
    (l__law_refused : K.lookup f__law_refused = some ⟨oc__law_refused, od__law_refused, .func (PySem.W.fnOf "_law_refused" "_law_refused" (defArgs s__law_refused) (defBody s__law_refused) (defScope s__law_refused) .none kV__law_refused dc__law_refused pm__law_refused an__law_refused cd__law_refused ct__law_refused), sl__law_refused⟩)
    (c__law_refused : PySem.W.codeIn K cd__law_refused "_law_refused" = true)
    (k__law_refused : PySem.W.keepIn K (.ref f__law_refused) = true)
    (a_law : PySem.W.nsIn K mainGlobals "law" = some (some (.ref f_law)))
    (l_law : K.lookup f_law = some ⟨oc_law, od_law, .func (PySem.W.fnOf "law" "law" (defArgs s_law) (defBody s_law) (defScope s_law) .none kV_law dc_law pm_law an_law cd_law ct_law), sl_law⟩)
    (c_law : PySem.W.codeIn K cd_law "law" = true)
    (k_law : PySem.W.keepIn K (.ref f_law) = true)
    (z_len : PySem.W.nsIn K mainGlobals "len" = some none)
    (z_abs : PySem.W.nsIn K mainGlobals "abs" = some none)
    (z_int : PySem.W.nsIn K mainGlobals "int" = some none)
    (z_isinstance : PySem.W.nsIn K mainGlobals "isinstance" = some none)
    (z_bool : PySem.W.nsIn K mainGlobals "bool" = some none)
    (z_all : PySem.W.nsIn K mainGlobals "all" = some none)
    (z_list : PySem.W.nsIn K mainGlobals "list" = some none)
    (z_ValueError : PySem.W.nsIn K mainGlobals "ValueError" = some none)
    (z_range : PySem.W.nsIn K mainGlobals "range" = some none) :
    ∃ fd : FuncData, (∀ (s : Shared) (v : Value), BindsTo s fd ⟨[v], []⟩ [("script", v)]) ∧ ∀ base : Heap, K.In base → base.Ns mainGlobals mg → FnOk l.prog w K mg base CX0 4 fa fd ["script"] (spLaw K) := by
  have e : f_law = fa := (Value.ref.inj (Option.some.inj (hfa.symm.trans (PySem.W.mg_of X G a_law)))).symm
  subst e
  let T : Env K mg := {
    c_MeridianError := C_MeridianError,
    c_BadArgument := C_BadArgument,
    c_BadBytes := C_BadBytes,
    c_Refused := C_Refused,
    a_encode_number := f_encode_number,
    d_encode_number := _,
    F_encode_number := fun_mk (st := s_encode_number) l_encode_number c_encode_number k_encode_number,
    b_encode_number := (fun_mk (st := s_encode_number) l_encode_number c_encode_number k_encode_number).binds (ps := ["number"]) fun _ _ _ _ _ _ us hl => match us, hl with | [_], _ => rfl,
    g_encode_number := PySem.W.mg_of X G a_encode_number,
    a__law_cell := f__law_cell,
    d__law_cell := _,
    F__law_cell := fun_mk (st := s__law_cell) l__law_cell c__law_cell k__law_cell,
    b__law_cell := (fun_mk (st := s__law_cell) l__law_cell c__law_cell k__law_cell).binds (ps := ["script", "k"]) fun _ _ _ _ _ _ us hl => match us, hl with | [_, _], _ => rfl,
    g__law_cell := PySem.W.mg_of X G a__law_cell,
    a__law_is_int := f__law_is_int,
    d__law_is_int := _,
    F__law_is_int := fun_mk (st := s__law_is_int) l__law_is_int c__law_is_int k__law_is_int,
    b__law_is_int := (fun_mk (st := s__law_is_int) l__law_is_int c__law_is_int k__law_is_int).binds (ps := ["thing"]) fun _ _ _ _ _ _ us hl => match us, hl with | [_], _ => rfl,
    g__law_is_int := PySem.W.mg_of X G a__law_is_int,
    a__law_is_block := f__law_is_block,
    d__law_is_block := _,
    F__law_is_block := fun_mk (st := s__law_is_block) l__law_is_block c__law_is_block k__law_is_block,
    b__law_is_block := (fun_mk (st := s__law_is_block) l__law_is_block c__law_is_block k__law_is_block).binds (ps := ["thing"]) fun _ _ _ _ _ _ us hl => match us, hl with | [_], _ => rfl,
    g__law_is_block := PySem.W.mg_of X G a__law_is_block,
    a__law_varint := f__law_varint,
    d__law_varint := _,
    F__law_varint := fun_mk (st := s__law_varint) l__law_varint c__law_varint k__law_varint,
    b__law_varint := (fun_mk (st := s__law_varint) l__law_varint c__law_varint k__law_varint).binds (ps := ["number"]) fun _ _ _ _ _ _ us hl => match us, hl with | [_], _ => rfl,
    g__law_varint := PySem.W.mg_of X G a__law_varint,
    a__law_number := f__law_number,
    d__law_number := _,
    F__law_number := fun_mk (st := s__law_number) l__law_number c__law_number k__law_number,
    b__law_number := (fun_mk (st := s__law_number) l__law_number c__law_number k__law_number).binds (ps := ["cell"]) fun _ _ _ _ _ _ us hl => match us, hl with | [_], _ => rfl,
    g__law_number := PySem.W.mg_of X G a__law_number,
    a__law_refused := f__law_refused,
    d__law_refused := _,
    F__law_refused := fun_mk (st := s__law_refused) l__law_refused c__law_refused k__law_refused,
    b__law_refused := (fun_mk (st := s__law_refused) l__law_refused c__law_refused k__law_refused).binds (ps := ["number"]) fun _ _ _ _ _ _ us hl => match us, hl with | [_], _ => rfl,
    g__law_refused := PySem.W.mg_of X G a__law_refused,
    a_law := f_law,
    d_law := _,
    F_law := fun_mk (st := s_law) l_law c_law k_law,
    b_law := (fun_mk (st := s_law) l_law c_law k_law).binds (ps := ["script"]) fun _ _ _ _ _ _ us hl => match us, hl with | [_], _ => rfl,
    e_MeridianError := ⟨PySem.W.mg_of X G mg_MeridianError, x_MeridianError, kc_MeridianError, bp_MeridianError, tp_MeridianError, ip_MeridianError, ⟨ga_MeridianError, gt_MeridianError, bp_MeridianError, hd_MeridianError, ca_MeridianError, cn, ct, mo_MeridianError⟩, kit_ty_sub ve_MeridianError (by decide +kernel)⟩,
    u_MeridianError_MeridianError := PySem.W.exm_ref bp_MeridianError hd_MeridianError tp_MeridianError u_MeridianError_MeridianError,
    q_MeridianError_MeridianError := kit_own u_MeridianError_MeridianError u_MeridianError_MeridianError ip_MeridianError tp_MeridianError,
    u_MeridianError_BadArgument := PySem.W.exm_ref bp_BadArgument hd_BadArgument tp_BadArgument u_MeridianError_BadArgument,
    q_MeridianError_BadArgument := kit_own u_MeridianError_BadArgument u_MeridianError_MeridianError ip_BadArgument tp_BadArgument,
    u_MeridianError_BadBytes := PySem.W.exm_ref bp_BadBytes hd_BadBytes tp_BadBytes u_MeridianError_BadBytes,
    q_MeridianError_BadBytes := kit_own u_MeridianError_BadBytes u_MeridianError_MeridianError ip_BadBytes tp_BadBytes,
    u_MeridianError_Refused := PySem.W.exm_ref bp_Refused hd_Refused tp_Refused u_MeridianError_Refused,
    q_MeridianError_Refused := kit_own u_MeridianError_Refused u_MeridianError_MeridianError ip_Refused tp_Refused,
    e_BadArgument := ⟨PySem.W.mg_of X G mg_BadArgument, x_BadArgument, kc_BadArgument, bp_BadArgument, tp_BadArgument, ip_BadArgument, ⟨ga_BadArgument, gt_BadArgument, bp_BadArgument, hd_BadArgument, ca_BadArgument, cn, ct, mo_BadArgument⟩, kit_ty_sub ve_BadArgument (by decide +kernel)⟩,
    u_BadArgument_MeridianError := PySem.W.exm_ref bp_MeridianError hd_MeridianError tp_MeridianError u_BadArgument_MeridianError,
    q_BadArgument_MeridianError := kit_own u_BadArgument_MeridianError u_BadArgument_BadArgument ip_MeridianError tp_MeridianError,
    u_BadArgument_BadArgument := PySem.W.exm_ref bp_BadArgument hd_BadArgument tp_BadArgument u_BadArgument_BadArgument,
    q_BadArgument_BadArgument := kit_own u_BadArgument_BadArgument u_BadArgument_BadArgument ip_BadArgument tp_BadArgument,
    u_BadArgument_BadBytes := PySem.W.exm_ref bp_BadBytes hd_BadBytes tp_BadBytes u_BadArgument_BadBytes,
    q_BadArgument_BadBytes := kit_own u_BadArgument_BadBytes u_BadArgument_BadArgument ip_BadBytes tp_BadBytes,
    u_BadArgument_Refused := PySem.W.exm_ref bp_Refused hd_Refused tp_Refused u_BadArgument_Refused,
    q_BadArgument_Refused := kit_own u_BadArgument_Refused u_BadArgument_BadArgument ip_Refused tp_Refused,
    e_BadBytes := ⟨PySem.W.mg_of X G mg_BadBytes, x_BadBytes, kc_BadBytes, bp_BadBytes, tp_BadBytes, ip_BadBytes, ⟨ga_BadBytes, gt_BadBytes, bp_BadBytes, hd_BadBytes, ca_BadBytes, cn, ct, mo_BadBytes⟩, kit_ty_sub ve_BadBytes (by decide +kernel)⟩,
    u_BadBytes_MeridianError := PySem.W.exm_ref bp_MeridianError hd_MeridianError tp_MeridianError u_BadBytes_MeridianError,
    q_BadBytes_MeridianError := kit_own u_BadBytes_MeridianError u_BadBytes_BadBytes ip_MeridianError tp_MeridianError,
    u_BadBytes_BadArgument := PySem.W.exm_ref bp_BadArgument hd_BadArgument tp_BadArgument u_BadBytes_BadArgument,
    q_BadBytes_BadArgument := kit_own u_BadBytes_BadArgument u_BadBytes_BadBytes ip_BadArgument tp_BadArgument,
    u_BadBytes_BadBytes := PySem.W.exm_ref bp_BadBytes hd_BadBytes tp_BadBytes u_BadBytes_BadBytes,
    q_BadBytes_BadBytes := kit_own u_BadBytes_BadBytes u_BadBytes_BadBytes ip_BadBytes tp_BadBytes,
    u_BadBytes_Refused := PySem.W.exm_ref bp_Refused hd_Refused tp_Refused u_BadBytes_Refused,
    q_BadBytes_Refused := kit_own u_BadBytes_Refused u_BadBytes_BadBytes ip_Refused tp_Refused,
    e_Refused := ⟨PySem.W.mg_of X G mg_Refused, x_Refused, kc_Refused, bp_Refused, tp_Refused, ip_Refused, ⟨ga_Refused, gt_Refused, bp_Refused, hd_Refused, ca_Refused, cn, ct, mo_Refused⟩, kit_ty_sub ve_Refused (by decide +kernel)⟩,
    u_Refused_MeridianError := PySem.W.exm_ref bp_MeridianError hd_MeridianError tp_MeridianError u_Refused_MeridianError,
    q_Refused_MeridianError := kit_own u_Refused_MeridianError u_Refused_Refused ip_MeridianError tp_MeridianError,
    u_Refused_BadArgument := PySem.W.exm_ref bp_BadArgument hd_BadArgument tp_BadArgument u_Refused_BadArgument,
    q_Refused_BadArgument := kit_own u_Refused_BadArgument u_Refused_Refused ip_BadArgument tp_BadArgument,
    u_Refused_BadBytes := PySem.W.exm_ref bp_BadBytes hd_BadBytes tp_BadBytes u_Refused_BadBytes,
    q_Refused_BadBytes := kit_own u_Refused_BadBytes u_Refused_Refused ip_BadBytes tp_BadBytes,
    u_Refused_Refused := PySem.W.exm_ref bp_Refused hd_Refused tp_Refused u_Refused_Refused,
    q_Refused_Refused := kit_own u_Refused_Refused u_Refused_Refused ip_Refused tp_Refused,
    z_len := PySem.W.mg_none_of X G z_len,
    z_abs := PySem.W.mg_none_of X G z_abs,
    z_int := PySem.W.mg_none_of X G z_int,
    z_isinstance := PySem.W.mg_none_of X G z_isinstance,
    z_bool := PySem.W.mg_none_of X G z_bool,
    z_all := PySem.W.mg_none_of X G z_all,
    z_list := PySem.W.mg_none_of X G z_list,
    z_ValueError := PySem.W.mg_none_of X G z_ValueError,
    z_range := PySem.W.mg_none_of X G z_range }
  exact ⟨PySem.W.fnOf "law" "law" (defArgs s_law) (defBody s_law) (defScope s_law) .none kV_law dc_law pm_law an_law cd_law ct_law, fun s v => .of_eq rfl, fun base _ _ => ok_law T⟩
theorem walk {l : PySem.W.OpenLaw} {q : Program} {loose : List Str} {XP : (Str → Option Value) → Heap → Prop} {YP : World → Heap → Prop} {d : DefRec} {K : Params → PySem.W.Frag} (hn : l.most = some 63) (hdf : d.params.defaults = [])
    (hY : ∀ (w : World) (h : Heap), YP w h → (K w.params).In h)
    (F : ∀ (w : World) (mg : Str → Option Value) (fa : Addr) (h : Heap), (K w.params).In h → h.Ns mainGlobals mg → mg d.name = some (.ref fa) →
      ∃ fd : FuncData, (∀ (s : Shared) (u : Value), BindsTo s fd ⟨[u], []⟩ [("script", u)]) ∧ ∀ base : Heap, (K w.params).In base → base.Ns mainGlobals mg → FnOk l.prog w (K w.params) mg base CX0 4 fa fd ["script"] (spLaw (K w.params))) :
    PySem.W.WalkO q loose XP YP l.row.toRowW d [] (fun f vs => PySem.call f vs) :=
  L2.walk_of (n := 63) (k := 4) (x := "script") (CX := fun _ => CX0) (sp := fun w => spLaw (K w.params)) hn (by decide) hdf ⟨rfl, by decide, by decide⟩ hY F (fun _ _ a ns hl _ hS => ⟨a, ns, rfl, hS, hl, fun _ => rfl⟩) fun _ _ _ _ _ z => z
end Dv
open PySem PySem.W PyProof.Rows in
set_option maxRecDepth 100000 in
set_option maxHeartbeats 0 in
theorem PySem.Challenge.cw_meridian_k01_numbers_encoded_holds : PySem.Challenge.rw_meridian_k01_numbers_encoded.Holds := by
  w_on; o_law; k_head; (case hw => w_witness2)
  k_fill
  refine Dv.walk (l := PySem.Challenge.rw_meridian_k01_numbers_encoded) rfl rfl (fun w h Y => PySem.W.kIn_of Y) ?F
  case F =>
    intro w mg fa h KX G hmg
    refine' Dv.all_mk KX G hmg ?mg_MeridianError ?x_MeridianError ?kc_MeridianError ?bp_MeridianError ?tp_MeridianError ?ip_MeridianError ?ga_MeridianError ?gt_MeridianError ?hd_MeridianError ?ca_MeridianError ?mo_MeridianError ?ve_MeridianError ?u_MeridianError_MeridianError ?u_MeridianError_BadArgument ?u_MeridianError_BadBytes ?u_MeridianError_Refused ?mg_BadArgument ?x_BadArgument ?kc_BadArgument ?bp_BadArgument ?tp_BadArgument ?ip_BadArgument ?ga_BadArgument ?gt_BadArgument ?hd_BadArgument ?ca_BadArgument ?mo_BadArgument ?ve_BadArgument ?u_BadArgument_MeridianError ?u_BadArgument_BadArgument ?u_BadArgument_BadBytes ?u_BadArgument_Refused ?mg_BadBytes ?x_BadBytes ?kc_BadBytes ?bp_BadBytes ?tp_BadBytes ?ip_BadBytes ?ga_BadBytes ?gt_BadBytes ?hd_BadBytes ?ca_BadBytes ?mo_BadBytes ?ve_BadBytes ?u_BadBytes_MeridianError ?u_BadBytes_BadArgument ?u_BadBytes_BadBytes ?u_BadBytes_Refused ?mg_Refused ?x_Refused ?kc_Refused ?bp_Refused ?tp_Refused ?ip_Refused ?ga_Refused ?gt_Refused ?hd_Refused ?ca_Refused ?mo_Refused ?ve_Refused ?u_Refused_MeridianError ?u_Refused_BadArgument ?u_Refused_BadBytes ?u_Refused_Refused ?cn ?ct ?a_encode_number ?l_encode_number ?c_encode_number ?k_encode_number ?a__law_cell ?l__law_cell ?c__law_cell ?k__law_cell ?a__law_is_int ?l__law_is_int ?c__law_is_int ?k__law_is_int ?a__law_is_block ?l__law_is_block ?c__law_is_block ?k__law_is_block ?a__law_varint ?l__law_varint ?c__law_varint ?k__law_varint ?a__law_number ?l__law_number ?c__law_number ?k__law_number ?a__law_refused ?l__law_refused ?c__law_refused ?k__law_refused ?a_law ?l_law ?c_law ?k_law ?z_len ?z_abs ?z_int ?z_isinstance ?z_bool ?z_all ?z_list ?z_ValueError ?z_range
    (case mg_MeridianError => k_is)
    (case mg_BadArgument => k_is)
    (case mg_BadBytes => k_is)
    (case mg_Refused => k_is)
    (case a_encode_number => k_is)
    (case a__law_cell => k_is)
    (case a__law_is_int => k_is)
    (case a__law_is_block => k_is)
    (case a__law_varint => k_is)
    (case a__law_number => k_is)
    (case a__law_refused => k_is)
    (case a_law => k_is)
    (case x_MeridianError => k_exc)
    (case kc_MeridianError => k_is)
    (case bp_MeridianError => k_is)
    (case tp_MeridianError => k_is)
    (case ip_MeridianError => k_is)
    (case ga_MeridianError => k_is)
    (case gt_MeridianError => k_is)
    (case hd_MeridianError => k_is)
    (case ca_MeridianError => k_is)
    (case mo_MeridianError => k_is)
    (case ve_MeridianError => k_is)
    (case u_MeridianError_MeridianError => k_is)
    (case u_MeridianError_BadArgument => k_is)
    (case u_MeridianError_BadBytes => k_is)
    (case u_MeridianError_Refused => k_is)
    (case x_BadArgument => k_exc)
    (case kc_BadArgument => k_is)
    (case bp_BadArgument => k_is)
    (case tp_BadArgument => k_is)
    (case ip_BadArgument => k_is)
    (case ga_BadArgument => k_is)
    (case gt_BadArgument => k_is)
    (case hd_BadArgument => k_is)
    (case ca_BadArgument => k_is)
    (case mo_BadArgument => k_is)
    (case ve_BadArgument => k_is)
    (case u_BadArgument_MeridianError => k_is)
    (case u_BadArgument_BadArgument => k_is)
    (case u_BadArgument_BadBytes => k_is)
    (case u_BadArgument_Refused => k_is)
    (case x_BadBytes => k_exc)
    (case kc_BadBytes => k_is)
    (case bp_BadBytes => k_is)
    (case tp_BadBytes => k_is)
    (case ip_BadBytes => k_is)
    (case ga_BadBytes => k_is)
    (case gt_BadBytes => k_is)
    (case hd_BadBytes => k_is)
    (case ca_BadBytes => k_is)
    (case mo_BadBytes => k_is)
    (case ve_BadBytes => k_is)
    (case u_BadBytes_MeridianError => k_is)
    (case u_BadBytes_BadArgument => k_is)
    (case u_BadBytes_BadBytes => k_is)
    (case u_BadBytes_Refused => k_is)
    (case x_Refused => k_exc)
    (case kc_Refused => k_is)
    (case bp_Refused => k_is)
    (case tp_Refused => k_is)
    (case ip_Refused => k_is)
    (case ga_Refused => k_is)
    (case gt_Refused => k_is)
    (case hd_Refused => k_is)
    (case ca_Refused => k_is)
    (case mo_Refused => k_is)
    (case ve_Refused => k_is)
    (case u_Refused_MeridianError => k_is)
    (case u_Refused_BadArgument => k_is)
    (case u_Refused_BadBytes => k_is)
    (case u_Refused_Refused => k_is)
    (case cn => k_is)
    (case ct => k_is)
    (case l_encode_number => k_is)
    (case c_encode_number => k_is)
    (case k_encode_number => k_is)
    (case l__law_cell => k_is)
    (case c__law_cell => k_is)
    (case k__law_cell => k_is)
    (case l__law_is_int => k_is)
    (case c__law_is_int => k_is)
    (case k__law_is_int => k_is)
    (case l__law_is_block => k_is)
    (case c__law_is_block => k_is)
    (case k__law_is_block => k_is)
    (case l__law_varint => k_is)
    (case c__law_varint => k_is)
    (case k__law_varint => k_is)
    (case l__law_number => k_is)
    (case c__law_number => k_is)
    (case k__law_number => k_is)
    (case l__law_refused => k_is)
    (case c__law_refused => k_is)
    (case k__law_refused => k_is)
    (case l_law => k_is)
    (case c_law => k_is)
    (case k_law => k_is)
    (case z_len => k_is)
    (case z_abs => k_is)
    (case z_int => k_is)
    (case z_isinstance => k_is)
    (case z_bool => k_is)
    (case z_all => k_is)
    (case z_list => k_is)
    (case z_ValueError => k_is)
    (case z_range => k_is)
