import PyProof.Rows.All
import Wide.All
import OpenK.AllK
import Wide.FinOn
import HandS.ForExc
import HandS.ForMost
import HandS.IsInst
import HandS.ExcIs
import HandS.Wide
import HandS.CallSlots
import HandS.Property
import HandS.Defaults
import HandS.MakeKwOnly
import HandS.TupAny
import HandS.LawCells
import HandS.TupSets
import KE.KSortTupG
import KE.KSortTupUse
import HandS.Text
import HandS.Iter
import HandS.Dict
import HandS.More
import HandS.Small
import HandS.Style
import HandS.Walk
import PySem.Challenge.RW_meridian_k48_programs_run_alone
set_option Elab.async false
set_option linter.all false
set_option maxRecDepth 100000
set_option maxHeartbeats 4000000
namespace Dv
open PySem PySem.Spec PyProof.Rows L2
def top (i : Nat) : Stmt := PySem.Challenge.pw_meridian_k48_programs_run_alone.main.body.getD i (.Pass ⟨0, 0, 0, 0⟩)
abbrev s_advance : Stmt := (top 3)
theorem sc_advance : FnScope ["program", "got", "known", "changed", "operation", "name", "value", "key"] ["program", "got"] (defScope s_advance) := ⟨rfl, rfl, rfl, by decide +kernel, rfl, by decide +kernel, by decide +kernel⟩
abbrev s_run_alone : Stmt := (top 4)
theorem sc_run_alone : FnScope ["rows", "program", "got", "answer"] ["rows", "program"] (defScope s_run_alone) := ⟨rfl, rfl, rfl, by decide +kernel, rfl, by decide +kernel, by decide +kernel⟩
abbrev s_put_rows : Stmt := (top 5)
theorem sc_put_rows : FnScope ["rows", "writes", "changed", "key", "value"] ["rows", "writes"] (defScope s_put_rows) := ⟨rfl, rfl, rfl, by decide +kernel, rfl, by decide +kernel, by decide +kernel⟩
abbrev s__gives_up : Stmt := (top 6)
theorem sc__gives_up : FnScope ["operation", "value"] ["operation", "value"] (defScope s__gives_up) := ⟨rfl, rfl, rfl, by decide +kernel, rfl, by decide +kernel, by decide +kernel⟩
abbrev s__new_value : Stmt := (top 7)
theorem sc__new_value : FnScope ["operation", "value"] ["operation", "value"] (defScope s__new_value) := ⟨rfl, rfl, rfl, by decide +kernel, rfl, by decide +kernel, by decide +kernel⟩
abbrev s__law_cell : Stmt := (top 9)
theorem sc__law_cell : FnScope ["script", "k"] ["script", "k"] (defScope s__law_cell) := ⟨rfl, rfl, rfl, by decide +kernel, rfl, by decide +kernel, by decide +kernel⟩
abbrev s__law_draws : Stmt := (top 10)
theorem sc__law_draws : FnScope ["cell", "many", "limit", "out", "k", "mixed"] ["cell", "many", "limit"] (defScope s__law_draws) := ⟨rfl, rfl, rfl, by decide +kernel, rfl, by decide +kernel, by decide +kernel⟩
abbrev s__law_keys : Stmt := (top 11)
theorem sc__law_keys : FnScope ["cell", "letters", "numbers", "keys", "k", "head", "out", "key"] ["cell"] (defScope s__law_keys) := ⟨rfl, rfl, rfl, by decide +kernel, rfl, by decide +kernel, by decide +kernel⟩
abbrev s__law_operation : Stmt := (top 12)
theorem sc__law_operation : FnScope ["number", "keys", "name", "key", "amount"] ["number", "keys"] (defScope s__law_operation) := ⟨rfl, rfl, rfl, by decide +kernel, rfl, by decide +kernel, by decide +kernel⟩
abbrev s__law_program : Stmt := (top 13)
theorem sc__law_program : FnScope ["cell", "keys", "numbers", "number"] ["cell", "keys"] (defScope s__law_program) := ⟨rfl, rfl, rfl, by decide +kernel, rfl, by decide +kernel, by decide +kernel⟩
abbrev s__law_like : Stmt := (top 14)
theorem sc__law_like : FnScope ["actual", "due", "k"] ["actual", "due"] (defScope s__law_like) := ⟨rfl, rfl, rfl, by decide +kernel, rfl, by decide +kernel, by decide +kernel⟩
abbrev s__law_reads : Stmt := (top 15)
theorem sc__law_reads : FnScope ["part"] ["part"] (defScope s__law_reads) := ⟨rfl, rfl, rfl, by decide +kernel, rfl, by decide +kernel, by decide +kernel⟩
abbrev s__law_changes_key : Stmt := (top 16)
theorem sc__law_changes_key : FnScope ["part"] ["part"] (defScope s__law_changes_key) := ⟨rfl, rfl, rfl, by decide +kernel, rfl, by decide +kernel, by decide +kernel⟩
abbrev s__law_fails : Stmt := (top 17)
theorem sc__law_fails : FnScope ["part", "current"] ["part", "current"] (defScope s__law_fails) := ⟨rfl, rfl, rfl, by decide +kernel, rfl, by decide +kernel, by decide +kernel⟩
abbrev s__law_becomes : Stmt := (top 18)
theorem sc__law_becomes : FnScope ["part", "current"] ["part", "current"] (defScope s__law_becomes) := ⟨rfl, rfl, rfl, by decide +kernel, rfl, by decide +kernel, by decide +kernel⟩
abbrev s__law_step : Stmt := (top 19)
theorem sc__law_step : FnScope ["program", "got", "known", "pair", "changed", "part", "current", "target", "key"] ["program", "got"] (defScope s__law_step) := ⟨rfl, rfl, rfl, by decide +kernel, rfl, by decide +kernel, by decide +kernel⟩
abbrev s__law_shown : Stmt := (top 20)
theorem sc__law_shown : FnScope ["number"] ["number"] (defScope s__law_shown) := ⟨rfl, rfl, rfl, by decide +kernel, rfl, by decide +kernel, by decide +kernel⟩
abbrev s__law_alone : Stmt := (top 21)
theorem sc__law_alone : FnScope ["rows", "program", "got", "k", "due"] ["rows", "program"] (defScope s__law_alone) := ⟨rfl, rfl, rfl, by decide +kernel, rfl, by decide +kernel, by decide +kernel⟩
abbrev s__law_joined : Stmt := (top 22)
theorem sc__law_joined : FnScope ["before", "writes", "pairs", "pair", "other"] ["before", "writes"] (defScope s__law_joined) := ⟨rfl, rfl, rfl, by decide +kernel, rfl, by decide +kernel, by decide +kernel⟩
abbrev s__law_listed : Stmt := (top 23)
theorem sc__law_listed : FnScope ["rows", "key"] ["rows"] (defScope s__law_listed) := ⟨rfl, rfl, rfl, by decide +kernel, rfl, by decide +kernel, by decide +kernel⟩
abbrev s_law : Stmt := (top 24)
theorem sc_law : FnScope ["script", "keys", "first", "rows", "j", "k", "program", "before", "due", "after"] ["script"] (defScope s_law) := ⟨rfl, rfl, rfl, by decide +kernel, rfl, by decide +kernel, by decide +kernel⟩
theorem kit_own {K : PySem.W.Frag} {C E : Addr} {b : Bool} (h : PySem.W.subIn K (.ref C) (.ref E) = some b) (hs : PySem.W.subIn K (.ref C) (.ref C) = some true) (hc : PySem.W.isClsIn K E = true) (ht : PySem.W.typeIn K (.ref E) = some (.type "type")) :
    PySem.W.kitOne K (.ref C) (.ref E) = some b := by
  unfold PySem.W.kitOne
  by_cases e : (Value.ref C == Value.ref E) = true
  · rw [if_pos e]
    have e' : Value.ref C = Value.ref E := by simpa using e
    rw [← e', hs] at h
    exact h
  · rw [if_neg e]
    show (if ((PySem.W.clsIn K E).isSome && PySem.W.typeIn K (.ref E) == some (.type "type")) = true then PySem.W.subIn K (.ref C) (.ref E) else none) = some b
    have hc' : (PySem.W.clsIn K E).isSome = true := hc
    rw [hc', ht, if_pos (by rfl)]
    exact h
theorem kit_ty_sub {K : PySem.W.Frag} {C : Addr} {T : String} {b : Bool} (h : PySem.W.subIn K (.ref C) (.type T) = some b) (hm : PySem.W.kitMeta T = true) : PySem.W.kitOne K (.ref C) (.type T) = some b := by
  unfold PySem.W.kitOne
  rw [if_neg (by simp)]
  show (if PySem.W.kitMeta T = true then PySem.W.subIn K (.ref C) (.type T) else none) = some b
  rw [if_pos hm]
  exact h
/-- isinstance(e, c), isinstance(e, (c1, ..)): e the exception that the suite holds, of whatever class -/
def rIsG (K : PySem.W.Frag) (cls : Value) (d : Option Addr) (a : Addr) : List V → Hp → VK → Prop := fun xs H Q => ∃ (D : Addr) (b : Bool), cls = .ref D ∧ d = none ∧ ExcC K D ∧
  ((∃ (c : V) (cv : Value), xs = [.ref a, c] ∧ ClsV c cv ∧ PySem.W.kitOne K (.ref D) cv = some b ∧ Q (.bl b) H) ∨
   ∃ (tp : Addr) (cs : List V) (us : List Value), xs = [.ref a, .ref tp] ∧ H tp = some (.tup cs) ∧ Paired ClsV cs us ∧ PySem.W.kitAny K (.ref D) us = some b ∧ Q (.bl b) H)
theorem call_isG {X : Cx} {a : Addr} {cls : Value} {d : Option Addr} {oe : Obj} {pn : List (Addr × Obj)} (hz : Zc cls d oe) (hf : ∃ vs, oe.data = .fields vs) : CallR (X.suite a ((a, oe) :: pn)) (.builtin "isinstance") (rIsG X.K cls d a) := by
  intro pins s σ H xs us Q I r h
  obtain ⟨D, b, rfl, rfl, C, h⟩ := h
  rcases h with ⟨c, cv, rfl, hcv, e, q⟩ | ⟨tp, cs, ws, rfl, hT, k, e, q⟩
  · exact call_isE C hz hf pins s σ H _ us Q I r ⟨c, cv, b, rfl, fun u ru => hcv.eq ru, e, q⟩
  · obtain ⟨u1, u2, rfl, r1, r2⟩ := vals2 r
    cases (show u2 = Value.ref tp from r2)
    cases (show u1 = Value.ref a from r1)
    obtain ⟨hget, _⟩ := I.pin (a, oe) (List.mem_append.mpr (.inl List.mem_cons_self))
    obtain ⟨vs, hv⟩ := hf
    have J : PySem.W.InstAt s.heap a oe D none := by
      obtain ⟨oc, od, oda, osl⟩ := oe
      obtain ⟨h1, h2⟩ := hz
      dsimp only at h1 h2 hv
      subst h1 h2 hv
      exact ⟨hget, rfl, rfl, trivial⟩
    obtain ⟨_, its, rv, o, h1, h2, n, h3⟩ := (show ObjOk X.prog X.w H s.heap tp (.tup cs) from I.hok tp _ hT)
    have e3 := ClsV.all k rv
    subst e3
    obtain ⟨oc, od, dt, sl⟩ := o
    simp only at h2 h3
    subst h2 h3
    exact PySem.W.kia_tup (PySem.W.handS_kitx_exc C.hg C.hk C.hs C.hd C.ha C.hn C.ht C.hm) I.kIn J h1 e (fun z => nomatch z) fun tk => ⟨.bl b, H, I.kept (t' := tk) fun _ _ z => z, rfl, q⟩
/-- the room that == of data wants -/
theorem hu64_of {A : Around} {k : Nat} (hr : Room k A) : A.units + 64 < cLine := Nat.lt_of_le_of_lt (Nat.le_refl _) hr.units
theorem same_new {H : Hp} {p : Addr} {o : HO} (h : H p = none) : Same H (upd H p o) := fun b x e => by
  rw [upd_ne (ne_of_none e h)]
  exact e
/-- an object unknown before may change -/
theorem same_mut {H H1 : Hp} {p : Addr} {o : HO} (s : Same H H1) (h : H p = none) : Same H (upd H1 p o) := fun b x e => by
  rw [upd_ne (ne_of_none e h)]
  exact s b x e
theorem sql_new {K : PySem.W.Frag} {H : Hp} {p : Addr} {xs : List V} : SqL K (upd H p (.lst xs)) p xs := SqL.of upd_same
theorem same_dp {K : PySem.W.Frag} {H H' : Hp} (s : Same H H') : ∀ (d : PyData) (v : V), Dp K H v d → Dp K H' v d := by
  intro d v h
  exact Dp.rec (motive_1 := fun v d _ => Dp K H' v d) (motive_2 := fun vs ds _ => DpAll K H' vs ds) .non (fun b => .bl b) (fun i => .int i) (fun x => .str x)
    (fun h1 _ ih => .lst (s.seq h1) ih) (fun h1 _ ih => .tup (by rcases h1 with h1 | h1
                                                                 · rcases h1 with h1 | ⟨o, h1⟩
                                                                   · exact .inl (.inl (s _ _ h1))
                                                                   · exact .inl (.inr ⟨o, s _ _ h1⟩)
                                                                 · exact .inr h1) ih) .nil (fun _ _ h1 h2 => .cons h1 h2) h
/-! lists of ints as data -/
def dInts (ns : List Int) : PyData := .list (ns.map PyData.int)
theorem dp_all_ints {K : PySem.W.Frag} {H : Hp} : ∀ ns : List Int, DpAll K H (ns.map V.int) (ns.map PyData.int)
  | [] => .nil
  | n :: r => .cons (.int n) (dp_all_ints r)
theorem dp_ints {K : PySem.W.Frag} {H : Hp} {a : Addr} {ns : List Int} (h : SqL K H a (ns.map V.int)) : Dp K H (.ref a) (dInts ns) := .lst h (dp_all_ints ns)
theorem eqv_ints : ∀ ns ms : List Int, PyData.eqvAll (ns.map PyData.int) (ms.map PyData.int) = decide (ns = ms)
  | [], [] => rfl
  | [], _ :: _ => rfl
  | _ :: _, [] => rfl
  | n :: r, m :: t => by
    show (PyData.eqv (.int n) (.int m) && PyData.eqvAll (r.map PyData.int) (t.map PyData.int)) = _
    rw [eqv_ints r t]
    show ((n == m) && decide (r = t)) = _
    by_cases h : n = m <;> by_cases h2 : r = t <;> simp [h, h2]
theorem eqv_dInts (ns ms : List Int) : PyData.eqv (dInts ns) (dInts ms) = decide (ns = ms) := eqv_ints ns ms
theorem canLay_ints : ∀ ns : List Int, (PyData.list (ns.map PyData.int)).canLay0 = true → True := fun _ _ => trivial
theorem ifT {c : Bool} {A B : Prop} (hc : c = true) (h : A) : if c = true then A else B := by
  rw [if_pos hc]
  exact h
theorem ifF {c : Bool} {A B : Prop} (hc : c = false) (h : B) : if c = true then A else B := by
  rw [hc, if_neg Bool.false_ne_true]
  exact h
/-- both ways of an if over a decided comparison -/
theorem iteD {p : Prop} [Decidable p] {A B : Prop} (h1 : p → A) (h2 : ¬ p → B) : if decide p = true then A else B := by
  by_cases h : p
  · rw [if_pos (decide_eq_true h)]
    exact h1 h
  · rw [if_neg (by simpa using h)]
    exact h2 h
theorem iteN {p : Prop} [Decidable p] {A B : Prop} (h1 : ¬ p → A) (h2 : p → B) : if (!decide p) = true then A else B := by
  by_cases h : p
  · rw [if_neg (by simpa using h)]
    exact h2 h
  · rw [if_pos (by simpa using h)]
    exact h1 h
theorem yes_if {σ : L2.St} {H : Hp} {A B : Hp → Prop} (h : A H) : tYes σ H (fun b H3 => if b = true then A H3 else B H3) := by
  show (if true = true then A H else B H)
  rw [if_pos rfl]
  exact h
abbrev Li (H : Hp) (p : Addr) (ns : List Int) : Prop := H p = some (.lst (ns.map V.int))
theorem szl {n : Nat} (h : n ≤ 1000000) : n < sizeLine := Nat.lt_of_le_of_lt h (by decide)
theorem szle {n : Nat} (h : n ≤ 1000000) : n ≤ sizeLine := Nat.le_of_lt (szl h)
theorem mem_int {ns : List Int} {i : Nat} {x : V} (hx : (ns.map V.int)[i]? = some x) : ∃ n, ns[i]? = some n ∧ x = V.int n := by
  rw [List.getElem?_map] at hx
  cases e : ns[i]? with
  | none => rw [e] at hx; cases hx
  | some u => rw [e] at hx; exact ⟨u, rfl, (Option.some.inj hx).symm⟩
theorem li_push {H : Hp} {p : Addr} {ns : List Int} {n : Int} : Li (upd H p (.lst (ns.map V.int ++ [V.int n]))) p (ns ++ [n]) := by
  show upd _ _ _ _ = _
  rw [upd_same, List.map_append]
  rfl
theorem take_succ {α : Type} {l : List α} {i : Nat} {x : α} (h : l[i]? = some x) : l.take (i + 1) = l.take i ++ [x] := by
  rw [List.take_add_one, h]
  rfl
/-! slices of lists -/
theorem cutV_map {α : Type} (f : α → V) (xs : List α) (lo hi : Option Int) : cutV (xs.map f) lo hi = ((xs.drop (HT.sIx xs.length 0 lo)).take (HT.sIx xs.length xs.length hi - HT.sIx xs.length 0 lo)).map f := by
  unfold cutV
  rw [List.length_map, List.map_take, List.map_drop]
theorem cut_to (xs : List V) (k : Nat) : cutV xs none (some (k : Int)) = xs.take k := by
  unfold cutV
  rw [HT.sIx_none, HT.sIx_nat, List.drop_zero, Nat.sub_zero]
  by_cases h : k ≤ xs.length
  · rw [Nat.min_eq_left h]
  · rw [Nat.min_eq_right (by omega), List.take_of_length_le (Nat.le_refl _), List.take_of_length_le (by omega)]
theorem cut_from (xs : List V) (k : Nat) : cutV xs (some (k : Int)) none = xs.drop k := by
  unfold cutV
  rw [HT.sIx_none, HT.sIx_nat]
  by_cases h : k ≤ xs.length
  · rw [Nat.min_eq_left h]
    exact List.take_of_length_le (by rw [List.length_drop]; exact Nat.le_refl _)
  · rw [Nat.min_eq_right (by omega), List.drop_of_length_le (by omega), List.take_nil, List.drop_of_length_le (by omega)]
theorem cut_fromto (xs : List V) (i j : Nat) : cutV xs (some (i : Int)) (some (j : Int)) = (xs.drop i).take (j - i) := by
  unfold cutV
  rw [HT.sIx_nat, HT.sIx_nat]
  by_cases h : i ≤ xs.length
  · rw [Nat.min_eq_left h]
    by_cases h2 : j ≤ xs.length
    · rw [Nat.min_eq_left h2]
    · rw [Nat.min_eq_right (by omega), List.take_of_length_le (by rw [List.length_drop]; exact Nat.le_refl _), List.take_of_length_le (by rw [List.length_drop]; omega)]
  · rw [show xs.drop (min i xs.length) = [] from List.drop_of_length_le (by omega), List.take_nil, List.drop_of_length_le (by omega), List.take_nil]
theorem sIx_neg (n d k : Nat) (h : 0 < k) : HT.sIx n d (some (-(k : Int))) = n - k := by
  show (if -(k : Int) < 0 then (-(k : Int) + (n : Int)).toNat else _) = _
  rw [if_pos (by omega)]
  omega
theorem cut_ton (xs : List V) (k : Nat) (h : 0 < k) : cutV xs none (some (-(k : Int))) = xs.take (xs.length - k) := by
  unfold cutV
  rw [HT.sIx_none, sIx_neg _ _ _ h, List.drop_zero, Nat.sub_zero]
theorem cut_fromn (xs : List V) (k : Nat) (h : 0 < k) : cutV xs (some (-(k : Int))) none = xs.drop (xs.length - k) := by
  unfold cutV
  rw [HT.sIx_none, sIx_neg _ _ _ h]
  exact List.take_of_length_le (by rw [List.length_drop]; exact Nat.le_refl _)

/-! own rules: methods and makings whose errors depend on the slots (for a try), keywords, an own __contains__ -/
section
variable {X : Cx} {CX : CXT} {k n : Nat} {C f : Addr} {fd : FuncData} {ps ks : List Str} {sp : Sp} {E : L2.St → XK} {dvs : List V} {ds : List Value} {o e : Expr} {es : List Expr} {kws : List Keyword} {m x : Str} {p apos pos : Pos} {ta : TE} {t tk : TA}
  {g : List Value → List Value → List Value} {gV : List V → List V → List V}
theorem run_at {pins : List (Addr × Obj)} {σ : L2.St} {H : Hp} {s : Shared} {Q : VK} {E : XK} {us0 us : List Value} {kw : List (Str × Value)} {vs : List V} (F : FnOk X.prog X.w X.K X.mg X.base CX k f fd ps sp) (hr : Room k X.A) (hx : PassesAt CX X σ E)
    (I : Inv X pins σ H s) (hb : BindsTo s fd ⟨us0, kw⟩ (ps.zip us)) (r : Vals vs us) (h : sp vs H Q E) : wpAny (model X.prog X.w) X.A (call (.ref f) us0 kw) (EP X pins σ Q) X.xe s := by
  refine wpAny_call (codeAny_mono (F.run X.A X.stack s H ⟨us0, kw⟩ us vs Q E hr I.env0 hb r h) fun r s' hq => ?_)
  cases r with
  | error er => exact hx pins H s er s' I hq
  | ok fl => cases fl with
    | ret u => exact I.after hq
    | next => exact hq.elim
    | brk => exact hq.elim
    | cont => exact hq.elim
/-- o.m(e, .., k = v, ..) -/
def tMA (C : Addr) (m : Str) (n l : Nat) (sp : Sp) (gV : List V → List V → List V) (E : L2.St → XK) (ta : TE) (t tk : TA) : TE := fun σ H Q => ta σ H fun x H1 => ∃ a dx fs, x = .ref a ∧ H1 a = some (.ins C dx fs) ∧ fs.lookup m = none ∧
  t σ H1 fun vs H2 => tk σ H2 fun zs H3 => vs.length = n ∧ zs.length = l ∧ sp (gV (x :: vs) zs) H3 Q (E σ)
theorem pe_mK {pl : Sem Bool} (he : PE X o ta) (c : Cls X.K C) (hm : Meth X.K C m f) (F : FnOk X.prog X.w X.K X.mg X.base CX k f fd ps sp) (hr : Room k X.A) (hb : KBn X.K fd ps (n + 1) ks g gV) (hx : ∀ σ, PassesAt CX X σ (E σ)) (ha : PA X (e :: es) t) (hkw : PK X kws tk)
    (hall : (backToKw pos (keywordEach kws X.env)).all (·.1.isSome) = true := by rfl) (hks : (backToKw pos (keywordEach kws X.env)).filterMap (·.1) = ks := by rfl)
    (hst : starEach (e :: es) X.env = (false, eval e X.env) :: starEach es X.env := by rfl) (hpl : ((backTo pos (starEach (e :: es) X.env)).any (·.1) || (backToKw pos (keywordEach kws X.env)).any (·.1.isNone)) = false := by rfl)
    (ht : eval (.Call (.Attribute o m apos) (e :: es) kws pos) X.env = (do
      let ov ← eval o X.env
      standAt apos.atName
      let (f, first) ← holding [ov] (getMethod ov m pl)
      callWith pos f first (backTo pos (starEach (e :: es) X.env)) (backToKw pos (keywordEach kws X.env))) := by rfl) :
    PE X (.Call (.Attribute o m apos) (e :: es) kws pos) (tMA C m n ks.length sp gV E ta t tk) := by
  refine ⟨fun pins s σ H Q I h => PySem.W.methodCall_KW (pl := pl) (thn (he.run pins s σ H _ I h) fun u s1 ⟨x, H1, I1, rx, a, dx, fs, ex, ea, l, q⟩ => ?_) ht⟩
  subst ex
  obtain rfl : u = Value.ref a := rx
  refine getmeth_ok I1 ea c hm l (PySem.W.callWith_KW (first := [.ref a]) (h₀ := X.base) I.ok.mod.kin hm.kp hall (thn (ha.run pos pins s1 σ H1 _ I1 q) fun us s2 ⟨vs, H2, I2, r, q2⟩ => ?_) hpl hst)
  refine thn (hkw.run pos pins s2 σ H2 _ I2 q2) fun ws s3 ⟨zs, H3, I3, rz, l1, l2, q3⟩ => ⟨I3.kIn, ?_⟩
  rw [hks]
  have r1 : Vals (V.ref a :: vs) (Value.ref a :: us) := .cons rfl r
  exact run_at F hr (hx σ) I3 (hb.to s3 (Value.ref a :: us) ws I3.kIn (by rw [List.length_cons, ← r.length, l1]) (rz.length.symm.trans l2)) (hb.rel r1 rz) q3
theorem pe_mK0 {pl : Sem Bool} (he : PE X o ta) (c : Cls X.K C) (hm : Meth X.K C m f) (F : FnOk X.prog X.w X.K X.mg X.base CX k f fd ps sp) (hr : Room k X.A) (hb : KBn X.K fd ps 1 ks g gV) (hx : ∀ σ, PassesAt CX X σ (E σ)) (hkw : PK X kws tk)
    (hall : (backToKw pos (keywordEach kws X.env)).all (·.1.isSome) = true := by rfl) (hks : (backToKw pos (keywordEach kws X.env)).filterMap (·.1) = ks := by rfl)
    (hpl : ((backTo pos (starEach [] X.env)).any (·.1) || (backToKw pos (keywordEach kws X.env)).any (·.1.isNone)) = false := by rfl)
    (ht : eval (.Call (.Attribute o m apos) [] kws pos) X.env = (do
      let ov ← eval o X.env
      standAt apos.atName
      let (f, first) ← holding [ov] (getMethod ov m pl)
      callWith pos f first (backTo pos (starEach [] X.env)) (backToKw pos (keywordEach kws X.env))) := by rfl) :
    PE X (.Call (.Attribute o m apos) [] kws pos) (tMA C m 0 ks.length sp gV E ta tNil tk) := by
  refine ⟨fun pins s σ H Q I h => PySem.W.methodCall_KW (pl := pl) (thn (he.run pins s σ H _ I h) fun u s1 ⟨x, H1, I1, rx, a, dx, fs, ex, ea, l, q⟩ => ?_) ht⟩
  subst ex
  obtain rfl : u = Value.ref a := rx
  refine getmeth_ok I1 ea c hm l (PySem.W.callWith_KW0 (first := [.ref a]) (h₀ := X.base) I.ok.mod.kin hm.kp hall (thn (hkw.run pos pins s1 σ H1 _ I1 q) fun ws s3 ⟨zs, H3, I3, rz, l1, l2, q3⟩ => ⟨I3.kIn, ?_⟩) hpl)
  rw [hks]
  have r1 : Vals ([V.ref a]) ([Value.ref a]) := .cons rfl .nil
  exact run_at F hr (hx σ) I3 (hb.to s3 [Value.ref a] ws I3.kIn rfl (rz.length.symm.trans l2)) (hb.rel r1 rz) q3
/-- o.m(e, ..), the wish of errors by the slots -/
def tMS (C : Addr) (m : Str) (sp : Sp) (dvs : List V) (E : L2.St → XK) (ta : TE) (t : TA) : TE := fun σ H Q => ta σ H fun x H1 => ∃ a dx fs, x = .ref a ∧ H1 a = some (.ins C dx fs) ∧ fs.lookup m = none ∧ t σ H1 fun vs H2 => sp (x :: (vs ++ dvs)) H2 Q (E σ)
theorem pe_mS {pl : Sem Bool} (he : PE X o ta) (c : Cls X.K C) (hm : Meth X.K C m f) (F : FnOk X.prog X.w X.K X.mg X.base CX k f fd ps sp) (hr : Room k X.A) (hb : Binds X.K fd ps ds) (hd : Vals dvs ds) (hx : ∀ σ, PassesAt CX X σ (E σ)) (ha : PA X (e :: es) t)
    (hst : starEach (e :: es) X.env = (false, eval e X.env) :: starEach es X.env := by rfl) (hpl : (backTo pos (starEach es X.env)).any (·.1) = false := by rfl)
    (ht : eval (.Call (.Attribute o m apos) (e :: es) [] pos) X.env = (do
      let ov ← eval o X.env
      standAt apos.atName
      let (f, first) ← holding [ov] (getMethod ov m pl)
      callWith pos f first (backTo pos (starEach (e :: es) X.env)) (backToKw pos (keywordEach [] X.env))) := by rfl) :
    PE X (.Call (.Attribute o m apos) (e :: es) [] pos) (tMS C m sp dvs E ta t) := by
  refine ⟨fun pins s σ H Q I h => PySem.W.methodCall_KW (pl := pl) (thn (he.run pins s σ H _ I h) fun u s1 ⟨x, H1, I1, rx, a, dx, fs, ex, ea, l, q⟩ => ?_) ht⟩
  subst ex
  obtain rfl : u = Value.ref a := rx
  refine getmeth_ok I1 ea c hm l (PySem.W.callWith_K (first := [.ref a]) (h₀ := X.base) I.ok.mod.kin hm.kp (thn (ha.run pos pins s1 σ H1 _ I1 q) fun us s2 ⟨vs, H2, I2, r, q2⟩ => ⟨I2.kIn, ?_⟩) hst hpl)
  have r2 : Vals (V.ref a :: (vs ++ dvs)) (Value.ref a :: us ++ ds) := .cons rfl (r.append hd)
  have hl : (Value.ref a :: us ++ ds).length = ps.length := by rw [← r2.length]; exact F.len _ _ _ _ q2
  exact run_at (us0 := Value.ref a :: us) F hr (hx σ) I2 (hb s2 (Value.ref a :: us) I2.kIn hl) r2 q2
theorem pe_mS0 {pl : Sem Bool} (he : PE X o ta) (c : Cls X.K C) (hm : Meth X.K C m f) (F : FnOk X.prog X.w X.K X.mg X.base CX k f fd ps sp) (hr : Room k X.A) (hb : Binds X.K fd ps ds) (hd : Vals dvs ds) (hx : ∀ σ, PassesAt CX X σ (E σ))
    (ht : eval (.Call (.Attribute o m apos) [] [] pos) X.env = (do
      let ov ← eval o X.env
      standAt apos.atName
      let (f, first) ← holding [ov] (getMethod ov m pl)
      callWith pos f first (backTo pos (starEach [] X.env)) (backToKw pos (keywordEach [] X.env))) := by rfl) :
    PE X (.Call (.Attribute o m apos) [] [] pos) (tMS C m sp dvs E ta tNil) := by
  refine ⟨fun pins s σ H Q I h => PySem.W.methodCall_KW (pl := pl) (thn (he.run pins s σ H _ I h) fun u s1 ⟨x, H1, I1, rx, a, dx, fs, ex, ea, l, q⟩ => ?_) ht⟩
  subst ex
  obtain rfl : u = Value.ref a := rx
  have r2 : Vals (V.ref a :: ([] ++ dvs)) (Value.ref a :: [] ++ ds) := .cons rfl hd
  have hl : (Value.ref a :: [] ++ ds).length = ps.length := by rw [← r2.length]; exact F.len _ _ _ _ q
  refine getmeth_ok I1 ea c hm l (PySem.W.callWith_K0 (first := [.ref a]) I1.kIn hm.kp (run_at (us0 := [Value.ref a]) F hr (hx σ) I1 (hb s1 [Value.ref a] I1.kIn hl) r2 q))
/-- C(e, ..), the wish of errors by the slots -/
def tKS (C : Addr) (sp : Sp) (dvs : List V) (E : L2.St → XK) (t : TA) : TE := fun σ H Q => t σ H fun vs H1 => ∀ x dx, H1 x = none → H1 dx = none → dx ≠ x →
  sp (.ref x :: (vs ++ dvs)) (upd (upd H1 dx (.own x)) x (.ins C dx [])) (fun v H2 => v = .non ∧ Q (.ref x) H2) (E σ)
theorem pe_kS (M : Mk X.K C f) (F : FnOk X.prog X.w X.K X.mg X.base CX k f fd ps sp) (hr : Room (k + 1) X.A) (hg : Gl X x) (hm : X.mg x = some (.ref C)) (hb : Binds X.K fd ps ds) (hd : Vals dvs ds) (hx : ∀ σ, PassesAt CX X σ (E σ)) (ha : PA X (e :: es) t)
    (hdb : (x == ("__debug__" : Str)) = false := by decide) (he : starEach (e :: es) X.env = (false, eval e X.env) :: starEach es X.env := by rfl) (hpl : (backTo pos (starEach es X.env)).any (·.1) = false := by rfl) :
    PE X (.Call (.Name x p) (e :: es) [] pos) (tKS C sp dvs E t) := by
  refine ⟨fun pins s σ H Q I h => wpAny_Call_Name_kw (ld_glob I hg hm (PySem.W.callWith_K (h₀ := X.base) I.ok.mod.kin M.kp (thn (ha.run pos pins s σ H _ I h) fun us s1 ⟨vs, H1, I1, r, q⟩ => ⟨I1.kIn, ?_⟩) he hpl) hdb)⟩
  have hq := q (s1.heap.objs.size + 1) s1.heap.objs.size (I1.hok.fresh (Nat.le_succ _)) (I1.hok.fresh (Nat.le_refl _)) (Nat.ne_of_lt (Nat.lt_succ_self _))
  have I2 := Inv.made (C := C) I1
  have r2 : Vals (V.ref (s1.heap.objs.size + 1) :: (vs ++ dvs)) (Value.ref (s1.heap.objs.size + 1) :: us ++ ds) := .cons rfl (r.append hd)
  have hl : (Value.ref (s1.heap.objs.size + 1) :: us ++ ds).length = ps.length := by rw [← r2.length]; exact F.len _ _ _ _ hq
  refine wpAny_call (make_map (f := f) I1.kIn M.makes M.init (beq_iff_eq.mp M.fn) (codeAny_mono (F.run _ X.stack _ _ ⟨Value.ref (s1.heap.objs.size + 1) :: us, []⟩ (Value.ref (s1.heap.objs.size + 1) :: us ++ ds) _ _ (E σ) (hr.make C us [])
    (I2.env0.make C us []) (hb _ (Value.ref (s1.heap.objs.size + 1) :: us) I2.kIn hl) r2 hq) fun r s' hz => ?_))
  cases r with
  | error er => exact hx σ pins _ _ er s' I2 hz
  | ok fl => cases fl with
    | ret u =>
      obtain ⟨v, H', I3, rv, ev, q3⟩ := I2.after hz
      subst ev
      exact ⟨rv, ⟨V.ref (s1.heap.objs.size + 1), H', I3, rfl, q3⟩⟩
    | next => exact hz.elim
    | brk => exact hz.elim
    | cont => exact hz.elim
theorem passAll {X : Cx} (σ : L2.St) : PassesAt (L2.CX X.prog X.w) X σ E0 := fun pins H s er s' I h => passL pins σ H s er s' I h
/-- y in o, o of a class with its own __contains__ -/
def rInOwn (C : Addr) (sp : Sp) (E : XK) (neg : Bool) : R2 := fun y x H Q => ∃ a dx fs, x = .ref a ∧ H a = some (.ins C dx fs) ∧ sp [.ref a, y] H (fun v H' => ∃ b : Bool, v = .bl b ∧ Q (.bl (b != neg)) H') E
theorem has_own {pins : List (Addr × Obj)} {σ : L2.St} {H : Hp} {s : Shared} {E : XK} {a dx : Addr} {fs : List (Str × V)} {y : V} {v : Value} {Q : Bool → Hp → Prop} (c : Cls X.K C) (hm : Meth X.K C "__contains__" f) (F : FnOk X.prog X.w X.K X.mg X.base CX k f fd ps sp) (hr : Room k X.A)
    (hb : Binds X.K fd ps []) (hx : Passes CX X E) (I : Inv X pins σ H s) (ea : H a = some (.ins C dx fs)) (ry : RelV y v) (h : sp [.ref a, y] H (fun z H' => ∃ b : Bool, z = .bl b ∧ Q b H') E) :
    wpAny (model X.prog X.w) X.A (contains (.ref a) v) (fun b s' => ∃ H', Inv X pins σ H' s' ∧ Q b H') X.xe s := by
  obtain ⟨mA, O, _⟩ := ins_get I.hok ea
  obtain ⟨od, J, _⟩ := O.look
  unfold contains
  refine wpAny_holding (wpAny_bind (wpAny_bind (J.type.here ((PySem.W.looks_findIn I.kIn hm.at_).here ?_))))
  rw [if_neg (by simp)]
  refine wpAny_bind (PySem.W.unlessNone_K I.kIn J hm.at_ hm.fn (wpAny_mono (run_fn (us := [.ref a, v]) (vs := [.ref a, y]) F hr hb .nil hx I (.cons rfl (.cons ry .nil)) h) (fun u s' hu => ?_) fun _ _ z => z))
  obtain ⟨z, H', I', rz, b, rfl, q⟩ := hu
  obtain rfl : u = Value.bool b := rz
  exact wpAny_truthy_bool ⟨H', I', q⟩
theorem op_inOwn {E : XK} (c : Cls X.K C) (hm : Meth X.K C "__contains__" f) (F : FnOk X.prog X.w X.K X.mg X.base CX k f fd ps sp) (hr : Room k X.A) (hb : Binds X.K fd ps []) (hx : Passes CX X E) : OpR X (compareOp .In) (rInOwn C sp E false) := by
  intro pins s σ H y x v u Q I ry rx h
  obtain ⟨a, dx, fs, rfl, ea, h⟩ := h
  obtain rfl : u = Value.ref a := rx
  refine wpAny_bind (wpAny_mono (has_own (Q := fun b H' => Q (.bl b) H') c hm F hr hb hx I ea ry (by simpa using h)) (fun b s' hz => ?_) fun _ _ z => z)
  obtain ⟨H', I', q⟩ := hz
  exact wpAny_pure ⟨.bl b, H', I', rfl, q⟩
theorem op_notInOwn {E : XK} (c : Cls X.K C) (hm : Meth X.K C "__contains__" f) (F : FnOk X.prog X.w X.K X.mg X.base CX k f fd ps sp) (hr : Room k X.A) (hb : Binds X.K fd ps []) (hx : Passes CX X E) : OpR X (compareOp .NotIn) (rInOwn C sp E true) := by
  intro pins s σ H y x v u Q I ry rx h
  obtain ⟨a, dx, fs, rfl, ea, h⟩ := h
  obtain rfl : u = Value.ref a := rx
  refine wpAny_bind (wpAny_mono (has_own (Q := fun b H' => Q (.bl (!b)) H') c hm F hr hb hx I ea ry (by simpa using h)) (fun b s' hz => ?_) fun _ _ z => z)
  obtain ⟨H', I', q⟩ := hz
  exact wpAny_pure ⟨.bl (!b), H', I', rfl, q⟩
end
/-! the same rules with K named (in comprehensions and trys the context is a bound one) -/
section
variable {X : Cx} {K : PySem.W.Frag}
theorem pe_fldK {e : Expr} {ta : TE} {f : Str} {pos : Pos} (h : X.K = K) (he : PE X e ta) (hb : attributeBase e f X.env (eval e X.env) = eval e X.env) : PE X (.Attribute e f pos) (tFld K ta f) := h ▸ pe_fld he hb
theorem ixK {r : PySem.W.Frag → V → V → Hp → VK → Prop} (h : X.K = K) (q : IxR X (r X.K)) : IxR X (r K) := h ▸ q
theorem slK {r : PySem.W.Frag → V → Option Int → Option Int → Hp → VK → Prop} (h : X.K = K) (q : SlR X (r X.K)) : SlR X (r K) := h ▸ q
theorem opK {f : Value → Value → Sem Value} {r : PySem.W.Frag → R2} (h : X.K = K) (q : OpR X f (r X.K)) : OpR X f (r K) := h ▸ q
theorem callK {v : Value} {r : PySem.W.Frag → List V → Hp → VK → Prop} (h : X.K = K) (q : CallR X v (r X.K)) : CallR X v (r K) := h ▸ q
def rLenK (K : PySem.W.Frag) : List V → Hp → VK → Prop := fun xs H Q => ∃ x n, xs = [x] ∧ LenV K x H n ∧ Q (.int n) H
def rListK (K : PySem.W.Frag) : List V → Hp → VK → Prop := fun xs H Q => ∃ p ys, xs = [.ref p] ∧ (SqL K H p ys ∨ SqT K H p ys) ∧ ∀ l, H l = none → Q (.ref l) (upd H l (.lst ys))
end
/-- what the top says of an own class without errors -/
structure ClsT (K : PySem.W.Frag) (mg : Str → Option Value) (nm : Str) (C : Addr) : Prop where
  cl : Cls K C
  mgC : mg nm = some (.ref C)
  ha : PySem.W.findIn K (.ref C) "__class__" = some (some (.builtin "object.__class__"))
  hn : PySem.W.specialIn K (.builtin "object.__class__") "__get__" = some (some (.builtin "getset_descriptor.__get__"))
  ht : PySem.W.takesIn K (.builtin "object.__class__") = some true
  hm : PySem.W.mroIn K C (.type "object") = some true
theorem kit_self {K : PySem.W.Frag} {t : Value} (h : (t == t) = true) : PySem.W.kitOne K t t = some true := by
  unfold PySem.W.kitOne
  rw [if_pos h]
theorem ClsT.ty {K : PySem.W.Frag} {mg : Str → Option Value} {nm : Str} {C : Addr} (c : ClsT K mg nm C) {H : Hp} {a dx : Addr} {fs : List (Str × V)} (e : H a = some (.ins C dx fs)) : TyX K H (.ref a) (.ref C) := .base (.ins e c.cl c.ha c.hn c.ht c.hm)
/-! one rule or another, by the proof's choice -/
theorem pe_either {X : Cx} {e : Expr} {t1 t2 : TE} (h1 : PE X e t1) (h2 : PE X e t2) : PE X e (fun σ H Q => t1 σ H Q ∨ t2 σ H Q) := ⟨fun pins s σ H Q I h => h.elim (h1.run pins s σ H Q I) (h2.run pins s σ H Q I)⟩
def iSeq (K : PySem.W.Frag) (tl : TE) : TI := fun σ H R => iList K tl σ H R ∨ iTup K tl σ H R
theorem pi_seq {X : Cx} {tg l : Expr} {tl : TE} (h : PE X l tl) : PI X tg l (iSeq X.K tl) := ⟨fun pins s σ H R I h' => h'.elim ((pi_list h).run pins s σ H R I) ((pi_tup h).run pins s σ H R I)⟩
theorem hu_of {A : Around} {k : Nat} (hr : Room k A) : A.units + 1 < cLine := by
  have := hr.un
  omega

/-- a text times a small number -/
def repS (z : Str) (n : Nat) : Str := ⟨List.foldl (fun x y => x ++ y) #[] (List.replicate n z.cps)⟩
theorem repS_one (z : Str) : repS z 1 = z := by
  show (⟨#[] ++ z.cps⟩ : Str) = z
  rw [Array.empty_append]
theorem foldl_empty : ∀ n : Nat, List.foldl (fun (x y : Array Nat) => x ++ y) #[] (List.replicate n #[]) = #[]
  | 0 => rfl
  | n + 1 => by
    rw [List.replicate_succ, List.foldl_cons]
    show List.foldl _ (#[] ++ #[]) _ = _
    rw [Array.empty_append]
    exact foldl_empty n
theorem repS_nil {z : Str} (h : z.length = 0) (n : Nat) : repS z n = z := by
  have e : z.cps = #[] := Array.eq_empty_of_size_eq_zero h
  obtain ⟨c⟩ := z
  have e : c = #[] := e
  subst e
  show (⟨List.foldl _ #[] (List.replicate n #[])⟩ : Str) = _
  rw [foldl_empty]
theorem foldl_size (c : Array Nat) : ∀ (n : Nat) (a : Array Nat), (List.foldl (fun (x y : Array Nat) => x ++ y) a (List.replicate n c)).size = a.size + n * c.size
  | 0, a => by
    rw [Nat.zero_mul]
    rfl
  | n + 1, a => by
    rw [List.replicate_succ, List.foldl_cons, foldl_size c n, Array.size_append, Nat.succ_mul]
    omega
theorem repS_len (z : Str) (n : Nat) : (repS z n).length = n * z.length := by
  show (List.foldl (fun (x y : Array Nat) => x ++ y) #[] (List.replicate n z.cps)).size = _
  rw [foldl_size]
  show 0 + n * z.cps.size = n * z.cps.size
  omega
theorem op_mul_str {X : Cx} : OpR X (binaryOp .Mult) (fun x y H Q => ∃ (z : Str) (k : Int), x = .str z ∧ y = .int k ∧ 0 ≤ k ∧ k ≤ 1000 ∧ z.length ≤ 1000 ∧ Q (.str (repS z k.toNat)) H) := by
  intro pins s σ H x y v u Q I rx ry h
  obtain ⟨z, k, rfl, rfl, h0, h1, hl, q⟩ := h
  obtain ⟨t, rfl⟩ : ∃ t, v = Value.str z t := rx
  obtain ⟨t2, rfl⟩ : ∃ t2, u = Value.int k t2 := ry
  have hzn : z.length * k.toNat ≤ 1000000 := by
    have := Nat.mul_le_mul hl (show k.toNat ≤ 1000 by omega)
    omega
  have hzk : (z.length : Int) * k ≤ 1000000 := by
    have e : ((k.toNat : Nat) : Int) = k := by omega
    rw [← e]
    have h := Int.ofNat_le.mpr hzn
    rw [Int.natCast_mul] at h
    exact h
  have hrl : (repS z k.toNat).length ≤ sizeLine := by
    rw [repS_len, Nat.mul_comm]
    exact Nat.le_of_lt (Nat.lt_of_le_of_lt hzn (by decide))
  refine PySem.P.mul_str (by rw [decide_eq_false (by omega), decide_eq_false (by omega)]; rfl) (fun c _ => ?_) (fun _ _ => ?_) ?_
  · have : (z.length : Int) ≤ (2 ^ 63 - 1) / k := Int.le_ediv_of_mul_le (by omega) (by omega)
    omega
  · exact decide_eq_false (Nat.not_lt.mpr (Nat.le_of_lt (Nat.lt_of_le_of_lt hzn (by decide))))
  · by_cases c : k < 1
    · rw [if_pos c]
      have e : k = 0 := by omega
      subst e
      exact ⟨by decide, V.str Str.empty, H, I.tok _, ⟨_, rfl⟩, q⟩
    · rw [if_neg c]
      by_cases c2 : (k == 1 || z.length == 0) = true
      · rw [if_pos c2]
        have e : repS z k.toNat = z := by
          rcases Bool.or_eq_true_iff.mp c2 with e | e
          · have : k = 1 := by simpa using e
            rw [this]
            exact repS_one z
          · exact repS_nil (by simpa using e) _
        rw [e] at q
        exact ⟨V.str z, H, I, ⟨_, rfl⟩, q⟩
      · rw [if_neg c2]
        exact ⟨hrl, V.str (repS z k.toNat), H, I.tok _, ⟨_, rfl⟩, q⟩

/-! own rule: sorted(xs) of a list of tuples of ints and texts, of any length -/
open PyProof.Rows in
inductive Shp (shape : Nat → Bool) : Nat → List V → List (Int ⊕ List Nat) → Prop
  | nil (i : Nat) : Shp shape i [] []
  | int {i : Nat} {n : Int} {r : List V} {l : List (Int ⊕ List Nat)} : shape i = false → Shp shape (i + 1) r l → Shp shape i (.int n :: r) (.inl n :: l)
  | str {i : Nat} {s : Str} {r : List V} {l : List (Int ⊕ List Nat)} : shape i = true → Shp shape (i + 1) r l → Shp shape i (.str s :: r) (.inr s.cps.toList :: l)
theorem Shp.items {shape : Nat → Bool} : ∀ {i : Nat} {ys : List V} {l : List (Int ⊕ List Nat)} {us : List Value}, Shp shape i ys l → Vals ys us → PyProof.Rows.tupItems shape i us = some l
  | _, _, _, _, .nil i, .nil => rfl
  | _, _, _, _, .int hs h, .cons r t => by
    obtain ⟨tk, rfl⟩ := r
    have := Shp.items h t
    simp only [PyProof.Rows.tupItems]
    rw [hs, if_neg Bool.false_ne_true, this]
    rfl
  | _, _, _, _, .str hs h, .cons r t => by
    obtain ⟨tk, rfl⟩ := r
    have := Shp.items h t
    simp only [PyProof.Rows.tupItems]
    rw [hs, if_pos rfl, this]
    rfl
def rSortTx (K : PySem.W.Frag) (shape : Nat → Bool) : List V → Hp → VK → Prop := fun vs H Q => ∃ (a : Addr) (xs : List V) (k : V → List (Int ⊕ List Nat)), vs = [V.ref a] ∧ SqL K H a xs ∧ (∀ x ∈ xs, ∃ t ys, x = V.ref t ∧ H t = some (.tup ys) ∧ Shp shape 0 ys (k x) ∧ ys ≠ []) ∧
  ∀ (zs : List V) (p : Addr), zs.Perm xs → zs.Pairwise (fun x y => PyProof.Rows.lexLt PyProof.Rows.itemOrd (k y) (k x) = false) → H p = none → Q (.ref p) (upd H p (.lst zs))
theorem tups_of {h : Heap} {shape : Nat → Bool} : ∀ us : List Value, (∀ u ∈ us, ∃ f, PyProof.Rows.TupOf h shape u f) → ∃ fs, PyProof.Rows.TupsOf h shape us fs
  | [], _ => ⟨[], .nil⟩
  | u :: us, q => by
    obtain ⟨f, hf⟩ := q u List.mem_cons_self
    obtain ⟨fs, hfs⟩ := tups_of us fun x hx => q x (List.mem_cons_of_mem _ hx)
    exact ⟨f :: fs, .cons hf hfs⟩
theorem cr_sortTx {X : Cx} {shape : Nat → Bool} : CallR X (.builtin "sorted") (rSortTx X.K shape) := by
  intro pins s σ H vs us Q I r h
  obtain ⟨a, xs, k, rfl, hs, hx, q⟩ := h
  obtain ⟨its, rv, hl, hz⟩ := I.list hs
  rw [Vals.ref1 r]
  obtain ⟨e1, e2⟩ := bkV_refs rv fun x m => by
    obtain ⟨t, ys, e, _⟩ := hx x m
    exact ⟨t, e⟩
  have raw : ∀ u ∈ its, ∃ t, u = Value.ref t ∧ (∃ f, PyProof.Rows.TupOf s.heap shape u f) ∧ PyProof.Rows.G.tupKeyC s.heap shape u = some (k (bkV u)) := fun u hu => by
    obtain ⟨t, rfl⟩ := e2 u hu
    have hm : V.ref t ∈ xs := by
      rw [e1]
      exact List.mem_map.mpr ⟨_, hu, rfl⟩
    obtain ⟨t', ys, e, ht, hsh, hne⟩ := hx _ hm
    cases e
    obtain ⟨us, rr, ⟨o, ho, hc, n, hd⟩, _⟩ := I.tuple (SqT.of ht)
    have hit := hsh.items rr
    refine ⟨t, rfl, ?_, show PyProof.Rows.G.tupKeyC s.heap shape (Value.ref t) = some (k (V.ref t)) from PyProof.Rows.G.tupKeyC_of ho hc hd (by simpa using hit)⟩
    generalize k (V.ref t) = l at hsh
    cases hsh with
    | nil => exact absurd rfl hne
    | int hs0 _ =>
      cases rr with
      | cons r0 t0 =>
        obtain ⟨tk, rfl⟩ := r0
        exact ⟨_, t, o, _, n, rfl, ho, hc, hd, rfl, fun _ => ⟨_, _, rfl⟩, fun z => by rw [hs0] at z; cases z⟩
    | str hs0 _ =>
      cases rr with
      | cons r0 t0 =>
        obtain ⟨tk, rfl⟩ := r0
        exact ⟨_, t, o, _, n, rfl, ho, hc, hd, rfl, (fun z => by rw [hs0] at z; cases z), fun _ => ⟨_, _, rfl⟩⟩
  obtain ⟨fs, hfs⟩ := tups_of its fun u hu => (raw u hu).choose_spec.2.1
  refine PyProof.Rows.G.sorted_tups (vs := its) hl.isList hfs (fun v hv => ⟨_, (raw v hv).choose_spec.2.2⟩) (by rw [← rv.length]; exact hz) fun st' hp hsrt _ => ?_
  generalize PyProof.Rows.arrOf st' = arr at hp hsrt
  have hpl : arr.toList.Perm (its.zip its) := by
    have := Array.perm_iff_toList_perm.mp hp
    rwa [PyProof.Rows.pairsOf_toList] at this
  have heq : ∀ p ∈ arr.toList, p.1 = p.2 := fun p hp2 => (mem_zip_self (hpl.mem_iff.mp hp2)).1
  have h1 : (arr.map (·.2)).toList.Perm its := by
    rw [Array.toList_map]
    have z := hpl.map Prod.snd
    rw [List.map_snd_zip (Nat.le_refl _)] at z
    exact z
  obtain ⟨ep, he'⟩ := PyProof.Rows.sortedAll_at s.heap its (arr.map (·.2))
  have h3 : ∀ u ∈ (arr.map (·.2)).toList, ∃ a, u = Value.ref a := fun u hu => e2 u (h1.mem_iff.mp hu)
  have hpx : ((arr.map (·.2)).toList.map bkV).Perm xs := by
    rw [e1]
    exact h1.map bkV
  have hlen : ((arr.map (·.2)).toList.map bkV).length ≤ sizeLine := by
    rw [hpx.length_eq]
    exact hz
  refine ⟨.ref _, upd H (s.heap.objs.size + 1) (.lst ((arr.map (·.2)).toList.map bkV)), I.laid (t' := s.toks) (fun _ _ => PyProof.Rows.sortedAll_old) (Nat.le_succ _) ⟨hlen, (arr.map (·.2)).toList, ep, bkV_vals h3, he'⟩, rfl, q _ _ hpx ?_ (I.hok.fresh (Nat.le_succ _))⟩
  rw [List.pairwise_map, Array.toList_map, List.pairwise_map, List.pairwise_iff_getElem]
  intro i j hi hj hij
  have hsz : (PyProof.Rows.pairsOf its).size = arr.size := hp.size_eq.symm
  have hle := hsrt i j (Nat.le_of_lt hij) (by rw [hsz]; simpa using hj)
  have kk : ∀ (m : Nat) (hm : m < arr.toList.length), PyProof.Rows.KK (PyProof.Rows.G.tupKindC s.heap shape) arr m = k (bkV arr.toList[m].2) := fun m hm => by
    unfold PyProof.Rows.KK
    have e0 : arr[m]? = some arr.toList[m] := by
      rw [← Array.getElem?_toList]
      exact List.getElem?_eq_getElem hm
    rw [e0]
    have hmem := List.getElem_mem hm
    have hit : arr.toList[m].2 ∈ its := by
      have := h1.mem_iff.mp (show arr.toList[m].2 ∈ (arr.map (·.2)).toList by rw [Array.toList_map]; exact List.mem_map.mpr ⟨_, hmem, rfl⟩)
      exact this
    show (PyProof.Rows.G.tupKeyC s.heap shape arr.toList[m].1).getD [] = _
    rw [heq _ hmem, (raw _ hit).choose_spec.2.2]
    rfl
  rw [kk i hi, kk j hj] at hle
  exact hle

/-- a comprehension within a comprehension, with no free names -/
theorem blkOk_nf {N : List Str} {sc sc0 scope : Scope} {own : List (Str × Nat)} (h : blkC N sc0 scope own = true) (hf : (scope.names.all fun y => y.2 != NameKind.free) = true) : BlkOk N sc scope own :=
  have b := blkOk_by h
  ⟨b.kind, b.uniq, b.ix, fun y hy e => absurd (List.all_eq_true.mp hf y hy) (by rw [e]; decide), b.own⟩
theorem pi_tupK {X : Cx} {K : PySem.W.Frag} (h : X.K = K) {tg l : Expr} {tl : TE} (q : PE X l tl) : PI X tg l (iTup K tl) := by
  subst h
  exact pi_tup q
theorem pi_listK {X : Cx} {K : PySem.W.Frag} (h : X.K = K) {tg l : Expr} {tl : TE} (q : PE X l tl) : PI X tg l (iList K tl) := by
  subst h
  exact pi_list q

structure Env (K : PySem.W.Frag) (mg : Str → Option Value) (w : World) where
  a_advance : Addr
  d_advance : FuncData
  a_run_alone : Addr
  d_run_alone : FuncData
  a_put_rows : Addr
  d_put_rows : FuncData
  a__gives_up : Addr
  d__gives_up : FuncData
  a__new_value : Addr
  d__new_value : FuncData
  a__law_cell : Addr
  d__law_cell : FuncData
  a__law_draws : Addr
  d__law_draws : FuncData
  a__law_keys : Addr
  d__law_keys : FuncData
  a__law_operation : Addr
  d__law_operation : FuncData
  a__law_program : Addr
  d__law_program : FuncData
  a__law_like : Addr
  d__law_like : FuncData
  a__law_reads : Addr
  d__law_reads : FuncData
  a__law_changes_key : Addr
  d__law_changes_key : FuncData
  a__law_fails : Addr
  d__law_fails : FuncData
  a__law_becomes : Addr
  d__law_becomes : FuncData
  a__law_step : Addr
  d__law_step : FuncData
  a__law_shown : Addr
  d__law_shown : FuncData
  a__law_alone : Addr
  d__law_alone : FuncData
  a__law_joined : Addr
  d__law_joined : FuncData
  a__law_listed : Addr
  d__law_listed : FuncData
  a_law : Addr
  d_law : FuncData
  F_advance : Fun K "advance" "advance" s_advance a_advance d_advance
  b_advance : Binds K d_advance ["program", "got"] []
  g_advance : mg "advance" = some (.ref a_advance)
  F_run_alone : Fun K "run_alone" "run_alone" s_run_alone a_run_alone d_run_alone
  b_run_alone : Binds K d_run_alone ["rows", "program"] []
  g_run_alone : mg "run_alone" = some (.ref a_run_alone)
  F_put_rows : Fun K "put_rows" "put_rows" s_put_rows a_put_rows d_put_rows
  b_put_rows : Binds K d_put_rows ["rows", "writes"] []
  g_put_rows : mg "put_rows" = some (.ref a_put_rows)
  F__gives_up : Fun K "_gives_up" "_gives_up" s__gives_up a__gives_up d__gives_up
  b__gives_up : Binds K d__gives_up ["operation", "value"] []
  g__gives_up : mg "_gives_up" = some (.ref a__gives_up)
  F__new_value : Fun K "_new_value" "_new_value" s__new_value a__new_value d__new_value
  b__new_value : Binds K d__new_value ["operation", "value"] []
  g__new_value : mg "_new_value" = some (.ref a__new_value)
  F__law_cell : Fun K "_law_cell" "_law_cell" s__law_cell a__law_cell d__law_cell
  b__law_cell : Binds K d__law_cell ["script", "k"] []
  g__law_cell : mg "_law_cell" = some (.ref a__law_cell)
  F__law_draws : Fun K "_law_draws" "_law_draws" s__law_draws a__law_draws d__law_draws
  b__law_draws : Binds K d__law_draws ["cell", "many", "limit"] []
  g__law_draws : mg "_law_draws" = some (.ref a__law_draws)
  F__law_keys : Fun K "_law_keys" "_law_keys" s__law_keys a__law_keys d__law_keys
  b__law_keys : Binds K d__law_keys ["cell"] []
  g__law_keys : mg "_law_keys" = some (.ref a__law_keys)
  F__law_operation : Fun K "_law_operation" "_law_operation" s__law_operation a__law_operation d__law_operation
  b__law_operation : Binds K d__law_operation ["number", "keys"] []
  g__law_operation : mg "_law_operation" = some (.ref a__law_operation)
  F__law_program : Fun K "_law_program" "_law_program" s__law_program a__law_program d__law_program
  b__law_program : Binds K d__law_program ["cell", "keys"] []
  g__law_program : mg "_law_program" = some (.ref a__law_program)
  F__law_like : Fun K "_law_like" "_law_like" s__law_like a__law_like d__law_like
  b__law_like : Binds K d__law_like ["actual", "due"] []
  g__law_like : mg "_law_like" = some (.ref a__law_like)
  F__law_reads : Fun K "_law_reads" "_law_reads" s__law_reads a__law_reads d__law_reads
  b__law_reads : Binds K d__law_reads ["part"] []
  g__law_reads : mg "_law_reads" = some (.ref a__law_reads)
  F__law_changes_key : Fun K "_law_changes_key" "_law_changes_key" s__law_changes_key a__law_changes_key d__law_changes_key
  b__law_changes_key : Binds K d__law_changes_key ["part"] []
  g__law_changes_key : mg "_law_changes_key" = some (.ref a__law_changes_key)
  F__law_fails : Fun K "_law_fails" "_law_fails" s__law_fails a__law_fails d__law_fails
  b__law_fails : Binds K d__law_fails ["part", "current"] []
  g__law_fails : mg "_law_fails" = some (.ref a__law_fails)
  F__law_becomes : Fun K "_law_becomes" "_law_becomes" s__law_becomes a__law_becomes d__law_becomes
  b__law_becomes : Binds K d__law_becomes ["part", "current"] []
  g__law_becomes : mg "_law_becomes" = some (.ref a__law_becomes)
  F__law_step : Fun K "_law_step" "_law_step" s__law_step a__law_step d__law_step
  b__law_step : Binds K d__law_step ["program", "got"] []
  g__law_step : mg "_law_step" = some (.ref a__law_step)
  F__law_shown : Fun K "_law_shown" "_law_shown" s__law_shown a__law_shown d__law_shown
  b__law_shown : Binds K d__law_shown ["number"] []
  g__law_shown : mg "_law_shown" = some (.ref a__law_shown)
  F__law_alone : Fun K "_law_alone" "_law_alone" s__law_alone a__law_alone d__law_alone
  b__law_alone : Binds K d__law_alone ["rows", "program"] []
  g__law_alone : mg "_law_alone" = some (.ref a__law_alone)
  F__law_joined : Fun K "_law_joined" "_law_joined" s__law_joined a__law_joined d__law_joined
  b__law_joined : Binds K d__law_joined ["before", "writes"] []
  g__law_joined : mg "_law_joined" = some (.ref a__law_joined)
  F__law_listed : Fun K "_law_listed" "_law_listed" s__law_listed a__law_listed d__law_listed
  b__law_listed : Binds K d__law_listed ["rows"] []
  g__law_listed : mg "_law_listed" = some (.ref a__law_listed)
  F_law : Fun K "law" "law" s_law a_law d_law
  b_law : Binds K d_law ["script"] []
  o_READ_KEY : Addr
  k_READ_KEY : mg "READ_KEY" = some (.ref o_READ_KEY)
  es_READ_KEY : Array DictEntry
  en_READ_KEY : Nat
  D_READ_KEY : KDict K w o_READ_KEY es_READ_KEY en_READ_KEY
  v_READ_KEY_read : Value
  i_READ_KEY_read : PySem.W.nsIn K o_READ_KEY "read" = some (some v_READ_KEY_read)
  r_READ_KEY_read : RelV (.int 1) v_READ_KEY_read
  v_READ_KEY_add : Value
  i_READ_KEY_add : PySem.W.nsIn K o_READ_KEY "add" = some (some v_READ_KEY_add)
  r_READ_KEY_add : RelV (.int 1) v_READ_KEY_add
  v_READ_KEY_need : Value
  i_READ_KEY_need : PySem.W.nsIn K o_READ_KEY "need" = some (some v_READ_KEY_need)
  r_READ_KEY_need : RelV (.int 1) v_READ_KEY_need
  v_READ_KEY_equal : Value
  i_READ_KEY_equal : PySem.W.nsIn K o_READ_KEY "equal" = some (some v_READ_KEY_equal)
  r_READ_KEY_equal : RelV (.int 1) v_READ_KEY_equal
  v_READ_KEY_copy : Value
  i_READ_KEY_copy : PySem.W.nsIn K o_READ_KEY "copy" = some (some v_READ_KEY_copy)
  r_READ_KEY_copy : RelV (.int 1) v_READ_KEY_copy
  i_READ_KEY_put : PySem.W.nsIn K o_READ_KEY "put" = some none
  i_READ_KEY_drop : PySem.W.nsIn K o_READ_KEY "drop" = some none
  o_CHANGED_KEY : Addr
  k_CHANGED_KEY : mg "CHANGED_KEY" = some (.ref o_CHANGED_KEY)
  es_CHANGED_KEY : Array DictEntry
  en_CHANGED_KEY : Nat
  D_CHANGED_KEY : KDict K w o_CHANGED_KEY es_CHANGED_KEY en_CHANGED_KEY
  i_CHANGED_KEY_read : PySem.W.nsIn K o_CHANGED_KEY "read" = some none
  v_CHANGED_KEY_add : Value
  i_CHANGED_KEY_add : PySem.W.nsIn K o_CHANGED_KEY "add" = some (some v_CHANGED_KEY_add)
  r_CHANGED_KEY_add : RelV (.int 1) v_CHANGED_KEY_add
  i_CHANGED_KEY_need : PySem.W.nsIn K o_CHANGED_KEY "need" = some none
  i_CHANGED_KEY_equal : PySem.W.nsIn K o_CHANGED_KEY "equal" = some none
  v_CHANGED_KEY_copy : Value
  i_CHANGED_KEY_copy : PySem.W.nsIn K o_CHANGED_KEY "copy" = some (some v_CHANGED_KEY_copy)
  r_CHANGED_KEY_copy : RelV (.int 2) v_CHANGED_KEY_copy
  v_CHANGED_KEY_put : Value
  i_CHANGED_KEY_put : PySem.W.nsIn K o_CHANGED_KEY "put" = some (some v_CHANGED_KEY_put)
  r_CHANGED_KEY_put : RelV (.int 1) v_CHANGED_KEY_put
  v_CHANGED_KEY_drop : Value
  i_CHANGED_KEY_drop : PySem.W.nsIn K o_CHANGED_KEY "drop" = some (some v_CHANGED_KEY_drop)
  r_CHANGED_KEY_drop : RelV (.int 1) v_CHANGED_KEY_drop
  z_dict : mg "dict" = none
  z_tuple : mg "tuple" = none
  z_sorted : mg "sorted" = none
  z_len : mg "len" = none
  z_abs : mg "abs" = none
  z_int : mg "int" = none
  z_range : mg "range" = none
  z_isinstance : mg "isinstance" = none
  z_bool : mg "bool" = none
  z_str : mg "str" = none
  z_all : mg "all" = none
  z_list : mg "list" = none
  z_min : mg "min" = none
  z_max : mg "max" = none
section
variable {P : Program} {w : World} {K : PySem.W.Frag} {mg : Str → Option Value} {base : Heap}
--PART /work/steering/wip/tools/pre.lean


--PART /work/steering/wip/tools/own.lean


--PART /work/steering/wip/parts/rets.lean

--PART /work/steering/wip/parts/num.lean
/-! ### base 128 -/
def vint (n : Int) : List Int := if n < 128 then [n] else (n % 128 + 128) :: vint (n / 128)
termination_by n.toNat
decreasing_by omega
theorem vint_lt {n : Int} (h : n < 128) : vint n = [n] := by rw [vint, if_pos h]
theorem vint_ge {n : Int} (h : ¬ n < 128) : vint n = (n % 128 + 128) :: vint (n / 128) := by rw [vint, if_neg h]
def NB : Int := 128 ^ 100
theorem vint_len : ∀ (k : Nat) (n : Int), n < 128 ^ (k + 1) → (vint n).length ≤ k + 1
  | 0, n, h => by
    have h' : n < 128 := by simpa using h
    rw [vint_lt h']
    exact Nat.le_refl _
  | k + 1, n, h => by
    by_cases c : n < 128
    · rw [vint_lt c]
      show 1 ≤ _
      omega
    · rw [vint_ge c, List.length_cons]
      have := vint_len k (n / 128) (by
        have e : (128 : Int) ^ (k + 1 + 1) = 128 ^ (k + 1) * 128 := Int.pow_succ ..
        rw [e] at h
        exact Int.ediv_lt_of_lt_mul (by decide) h)
      omega
theorem vint_len100 {n : Int} (h : n < NB) : (vint n).length ≤ 100 := vint_len 99 n h
theorem vint_ne (n : Int) : vint n ≠ [] := by
  by_cases c : n < 128
  · rw [vint_lt c]; simp
  · rw [vint_ge c]; simp
theorem vint_pos (n : Int) : 1 ≤ (vint n).length := by
  have := vint_ne n
  cases e : vint n with
  | nil => exact absurd e this
  | cons a r => simp
theorem vint_byte : ∀ (k : Nat) (n : Int), n < 128 ^ (k + 1) → 0 ≤ n → ∀ b ∈ vint n, 0 ≤ b ∧ b < 256
  | 0, n, h, h0, b, hb => by
    have h' : n < 128 := by simpa using h
    rw [vint_lt h'] at hb
    have : b = n := by simpa using hb
    omega
  | k + 1, n, h, h0, b, hb => by
    by_cases c : n < 128
    · rw [vint_lt c] at hb
      have : b = n := by simpa using hb
      omega
    · rw [vint_ge c] at hb
      rcases List.mem_cons.mp hb with e | e
      · omega
      · exact vint_byte k (n / 128) (by
          have e : (128 : Int) ^ (k + 1 + 1) = 128 ^ (k + 1) * 128 := Int.pow_succ ..
          rw [e] at h
          exact Int.ediv_lt_of_lt_mul (by decide) h) (by omega) b e
theorem vint_byte_NB {n : Int} (h : n < NB) (h0 : 0 ≤ n) : ∀ b ∈ vint n, 0 ≤ b ∧ b < 256 := vint_byte 99 n h h0
/-! ### numbers of the law -/
def lawNum (c : Int) : Int := if c < 10 ^ 18 then ([0, 1, 127, 128, 129, 16383, 16384, 16385, c] : List Int).getD (c % 9).toNat 0 else c % 10 ^ 60
theorem lawNum_lt {c : Int} (h : 0 ≤ c) : 0 ≤ lawNum c ∧ lawNum c < 10 ^ 60 := by
  unfold lawNum
  by_cases k : c < 10 ^ 18
  · rw [if_pos k]
    obtain ⟨j, hj, e⟩ : ∃ j : Nat, j < 9 ∧ (c % 9).toNat = j := ⟨_, by omega, rfl⟩
    rw [e]
    match j, hj with
    | 0, _ | 1, _ | 2, _ | 3, _ | 4, _ | 5, _ | 6, _ | 7, _ => exact ⟨by simp, by simp⟩
    | 8, _ => exact ⟨h, by show c < _; omega⟩
  · rw [if_neg k]
    exact ⟨Int.emod_nonneg _ (by decide), Int.emod_lt_of_pos _ (by decide)⟩
theorem num_NB {n : Int} (h : n < 10 ^ 60) : n < NB := Int.lt_of_lt_of_le h (by decide +kernel)
theorem canLay_dints : ∀ ns : List Int, PyData.canLayAll0 (ns.map PyData.int) = true
  | [] => rfl
  | n :: r => by
    show (PyData.canLay0 (.int n) && PyData.canLayAll0 (r.map PyData.int)) = true
    rw [canLay_dints r]
    rfl
theorem depth_dints : ∀ ns : List Int, PyData.depthAll (ns.map PyData.int) = 0
  | [] => by unfold PyData.depthAll; rfl
  | n :: r => by
    show PyData.depthAll (.int n :: r.map PyData.int) = 0
    unfold PyData.depthAll
    rw [depth_dints r]
    unfold PyData.depth
    rfl
theorem shaped_dInts (ns : List Int) : SeqAt.shaped (dInts ns) = true := by
  unfold SeqAt.shaped dInts
  rw [show PyData.canLay0 (.list (ns.map PyData.int)) = true from by unfold PyData.canLay0; exact canLay_dints ns]
  have : PyData.depth (.list (ns.map PyData.int)) = 1 := by
    unfold PyData.depth
    rw [depth_dints]
  rw [this]
  decide

--PART /work/steering/wip/parts/lawcell.lean
/-! ### the law's own helpers -/
def cell (ns : List Int) (k : Int) : Int := ((ns.getD k.toNat 0).natAbs : Int)
theorem cell_nn (ns : List Int) (k : Int) : 0 ≤ cell ns k := Int.natCast_nonneg _
def sp__law_cell (T : Env K mg w) : Sp := fun vs H Q E => ∃ (a : Addr) (ns : List Int) (k : Int), vs = [.ref a, .int k] ∧ SqL K H a (ns.map V.int) ∧ 0 ≤ k ∧ Q (.int (cell ns k)) H
theorem ok__law_cell (T : Env K mg w) : FnOk P w K mg base (L2.CX P w) 1 T.a__law_cell T.d__law_cell ["script", "k"] (sp__law_cell T) := by
  refine T.F__law_cell.okX sc__law_cell (fun vs H Q E h => by obtain ⟨_, _, _, rfl, _⟩ := h; rfl) (fun cdv A outer s H vs Q E hr h => ?_)
  obtain ⟨a, ns, k, rfl, hS, hk, h1⟩ := h
  refine ⟨_, (pss_cons (ps_if (pt_cmpR op_lt (pv 1) (pe_callB call_len (by rfl) T.z_len (by decide +kernel) (pa_cons (pv 0) pa_nil)) (nomark _)) (pss_one (ps_ret (pe_callB call_abs (by rfl) T.z_abs (by decide +kernel) (pa_cons (pe_callTy call_int1 (by rfl) T.z_int (by decide +kernel) (pa_cons (pe_ix ix_list (pv 0) (pv 1) (fun _ _ => rfl)) pa_nil)) pa_nil)))) pss_nil)
      (pss_one (ps_ret pe_int))), ?_⟩
  obtain ⟨j, rfl⟩ : ∃ j : Nat, k = (j : Int) := ⟨k.toNat, by omega⟩
  have hc : cell ns (j : Int) = ((ns.getD j 0).natAbs : Int) := rfl
  refine ⟨_, rfl, _, rfl, _, _, rfl, .inl ⟨_, hS, rfl⟩, _, _, rfl, rfl, _, rfl, iteD (fun c => ?_) (fun c => ?_)⟩
  · rw [List.length_map] at c
    have hj : j < ns.length := by omega
    refine ⟨_, rfl, _, rfl, a, _, _, _, rfl, rfl, hS, at_of (j := j) (v := V.int (ns.getD j 0)) rfl (by rw [List.getElem?_map, List.getD_eq_getElem?_getD, List.getElem?_eq_getElem hj]; rfl), .inl ⟨_, rfl, _, rfl, ?_⟩⟩
    have e : (if ns.getD j 0 < 0 then -ns.getD j 0 else ns.getD j 0) = cell ns (j : Int) := by
      rw [hc]
      split <;> omega
    show Q (V.int (if ns.getD j 0 < 0 then -ns.getD j 0 else ns.getD j 0)) H
    rw [e]
    exact h1
  · rw [List.length_map] at c
    show Q (.int 0) H
    have e : cell ns (j : Int) = 0 := by
      rw [hc, List.getD_eq_getElem?_getD, List.getElem?_eq_none (by omega)]
      rfl
    rw [e] at h1
    exact h1

--PART /work/steering/wip/parts/draws.lean
/-! ### drawn numbers -/
def bigGo (l : Int) : Nat → Int → List Int
  | 0, _ => []
  | m + 1, c => c % l :: bigGo l m (c / l)
def mixGo (l : Int) : Nat → Int → Int → List Int
  | 0, _, _ => []
  | m + 1, k, x => ((x * 16807 + 7919 * k) % 2147483647) / 64 % l :: mixGo l m (k + 1) ((x * 16807 + 7919 * k) % 2147483647)
def draws (c : Int) (m : Nat) (l : Int) : List Int := if 10 ^ 18 ≤ c then bigGo l m c else mixGo l m 0 ((c * 48271 + 12345) % 2147483647)
theorem bigGo_len (l : Int) : ∀ m c, (bigGo l m c).length = m
  | 0, _ => rfl
  | m + 1, c => by
    show (bigGo l m _).length + 1 = _
    rw [bigGo_len l m]
theorem mixGo_len (l : Int) : ∀ m k x, (mixGo l m k x).length = m
  | 0, _, _ => rfl
  | m + 1, k, x => by
    show (mixGo l m _ _).length + 1 = _
    rw [mixGo_len l m]
theorem bigGo_mem {l : Int} (hl : 0 < l) : ∀ m c, ∀ d ∈ bigGo l m c, 0 ≤ d ∧ d < l
  | 0, _, d, h => by cases h
  | m + 1, c, d, h => by
    rcases List.mem_cons.mp h with e | e
    · rw [e]
      exact ⟨Int.emod_nonneg _ (by omega), Int.emod_lt_of_pos _ hl⟩
    · exact bigGo_mem hl m _ d e
theorem mixGo_mem {l : Int} (hl : 0 < l) : ∀ m k x, ∀ d ∈ mixGo l m k x, 0 ≤ d ∧ d < l
  | 0, _, _, d, h => by cases h
  | m + 1, k, x, d, h => by
    rcases List.mem_cons.mp h with e | e
    · rw [e]
      exact ⟨Int.emod_nonneg _ (by omega), Int.emod_lt_of_pos _ hl⟩
    · exact mixGo_mem hl m _ _ d e
theorem draws_len (c : Int) (m : Nat) (l : Int) : (draws c m l).length = m := by
  unfold draws
  split
  · exact bigGo_len l m c
  · exact mixGo_len l m _ _
theorem draws_mem {c : Int} {m : Nat} {l : Int} (hl : 0 < l) : ∀ d ∈ draws c m l, 0 ≤ d ∧ d < l := by
  unfold draws
  split
  · exact bigGo_mem hl m c
  · exact mixGo_mem hl m _ _
def sp__law_draws (T : Env K mg w) : Sp := fun vs H Q E => ∃ c m l : Int, vs = [.int c, .int m, .int l] ∧ 0 ≤ m ∧ m ≤ 100000 ∧ 0 < l ∧ l < 1000000 ∧ ∀ p H', Same H H' → H p = none → Li H' p (draws c m.toNat l) → Q (.ref p) H'
theorem ok__law_draws (T : Env K mg w) : FnOk P w K mg base (L2.CX P w) 1 T.a__law_draws T.d__law_draws ["cell", "many", "limit"] (sp__law_draws T) := by
  refine T.F__law_draws.okX sc__law_draws (fun vs H Q E h => by obtain ⟨_, _, _, rfl, _⟩ := h; rfl) (fun cdv A outer s H vs Q E hr h => ?_)
  obtain ⟨c, m, l, rfl, hm, hm2, hl, hl2, h1⟩ := h
  refine ⟨_, (pss_cons (ps_set (i := 3) sc__law_draws.nd rfl (Or.inl rfl) (pe_lst pa_nil))
      (pss_cons (ps_if (pt_cmpR op_ge (pv 0) (pe_op op_pow pe_int pe_int) (nomark _)) (pss_cons (ps_for (passes_of rfl) rfl (pi_range1 rfl T.z_range (pa_cons (pv 1) pa_nil)) (pg_name (i := 4) sc__law_draws.nd rfl (Or.inl rfl)) (pss_cons (ps_expr (pe_bm PySem.F.plainAttrs_list PySem.F.slot_list_append PySem.F.type_list_append mt_append (pv 3) (pa_cons (pe_op op_mod (pe_callTy call_int1 (by rfl) T.z_int (by decide +kernel) (pa_cons (pv 0) pa_nil)) (pv 2)) pa_nil)))
      (pss_one (ps_set (i := 0) sc__law_draws.nd rfl (Or.inl rfl) (pe_op op_fdiv (pv 0) (pv 2))))))
      (pss_one (ps_ret (pv 3)))) pss_nil)
      (pss_cons (ps_set (i := 5) sc__law_draws.nd rfl (Or.inl rfl) (pe_op op_mod (pe_callTy call_int1 (by rfl) T.z_int (by decide +kernel) (pa_cons (pe_op op_add (pe_op op_mul (pv 0) pe_int) pe_int) pa_nil)) pe_int))
      (pss_cons (ps_for (passes_of rfl) rfl (pi_range1 rfl T.z_range (pa_cons (pv 1) pa_nil)) (pg_name (i := 4) sc__law_draws.nd rfl (Or.inl rfl)) (pss_cons (ps_set (i := 5) sc__law_draws.nd rfl (Or.inl rfl) (pe_op op_mod (pe_callTy call_int1 (by rfl) T.z_int (by decide +kernel) (pa_cons (pe_op op_add (pe_op op_mul (pv 5) pe_int) (pe_op op_mul pe_int (pv 4))) pa_nil)) pe_int))
      (pss_one (ps_expr (pe_bm PySem.F.plainAttrs_list PySem.F.slot_list_append PySem.F.type_list_append mt_append (pv 3) (pa_cons (pe_op op_mod (pe_op op_fdiv (pv 5) pe_int) (pv 2)) pa_nil))))))
      (pss_one (ps_ret (pv 3))))))), ?_⟩
  refine ⟨Nat.zero_le _, fun p np => ?_⟩
  refine ⟨_, rfl, _, _, rfl, rfl, ⟨by decide, by decide, by decide⟩, _, _, rfl, rfl, _, rfl, iteD (fun k => ?_) (fun k => ?_)⟩
  · have k : 10 ^ 18 ≤ c := k
    have ed : draws c m.toNat l = bigGo l m.toNat c := if_pos k
    rw [ed] at h1
    refine ⟨_, rfl, m, rfl, by omega, by omega, for_range (n := m.toNat) (fun i σ H' => ∃ c' v4 pre, σ = [some (.int c'), some (.int m), some (.int l), some (.ref p), v4, none] ∧ i ≤ m.toNat ∧ pre.length = i ∧ pre ++ bigGo l (m.toNat - i) c' = bigGo l m.toNat c ∧ Same H H' ∧ Li H' p pre) ⟨c, none, [], rfl, Nat.zero_le _, rfl, rfl, same_new np, upd_same⟩ ?_ ?_⟩
    · rintro i σ H1 hi ⟨c', v4, pre, rfl, _, hp, he, hs, hL⟩
      refine ⟨_, rfl, .inl ⟨rfl, _, SqL.of hL⟩, _, rfl, .inl ⟨_, rfl, _, rfl, _, _, rfl, rfl, hl, _, _, _, rfl, rfl, hL, szl (by rw [List.length_map]; omega), ?_⟩⟩
      refine ⟨_, rfl, _, rfl, _, _, rfl, rfl, ⟨hl, by omega⟩, ?_⟩
      refine ⟨c' / l, _, pre ++ [c' % l], rfl, by omega, by rw [List.length_append, hp]; rfl, ?_, same_mut hs np, li_push⟩
      rw [← he, List.append_assoc, show m.toNat - i = (m.toNat - (i + 1)) + 1 by omega]
      rfl
    · rintro σ H1 ⟨c', v4, pre, rfl, _, hp, he, hs, hL⟩
      refine ⟨_, rfl, h1 p _ hs np ?_⟩
      rw [← he, Nat.sub_self]
      show Li _ _ (pre ++ [])
      rw [List.append_nil]
      exact hL
  · have k : ¬ 10 ^ 18 ≤ c := k
    have ed : draws c m.toNat l = mixGo l m.toNat 0 ((c * 48271 + 12345) % 2147483647) := if_neg k
    rw [ed] at h1
    refine ⟨_, rfl, _, _, rfl, rfl, .inr ⟨by decide, by decide⟩, _, _, rfl, rfl, .inl ⟨_, rfl, _, _, rfl, rfl, by show (0 : Int) < _; decide, ?_⟩⟩
    refine ⟨_, rfl, m, rfl, by omega, by omega, for_range (n := m.toNat) (fun i σ H' => ∃ x v4 pre, σ = [some (.int c), some (.int m), some (.int l), some (.ref p), v4, some (.int x)] ∧ i ≤ m.toNat ∧ pre.length = i ∧ pre ++ mixGo l (m.toNat - i) (0 + (i : Int)) x = mixGo l m.toNat 0 ((c * 48271 + 12345) % 2147483647) ∧ Same H H' ∧ Li H' p pre) ⟨_, none, [], rfl, Nat.zero_le _, rfl, rfl, same_new np, upd_same⟩ ?_ ?_⟩
    · rintro i σ H1 hi ⟨x, v4, pre, rfl, _, hp, he, hs, hL⟩
      refine ⟨_, rfl, _, _, rfl, rfl, .inr ⟨by decide, by decide⟩, _, rfl, _, _, rfl, rfl, .inl ⟨by decide, by decide⟩, _, _, rfl, rfl, .inl ⟨_, rfl, _, _, rfl, rfl, by show (0 : Int) < _; decide, ?_⟩⟩
      refine ⟨_, rfl, .inl ⟨rfl, _, SqL.of hL⟩, _, rfl, _, _, rfl, rfl, ⟨by decide, by decide⟩, _, rfl, _, _, rfl, rfl, hl, _, _, _, rfl, rfl, hL, szl (by rw [List.length_map]; omega), ?_⟩
      refine ⟨_, _, pre ++ [((x * 16807 + 7919 * (0 + (i : Int))) % 2147483647) / 64 % l], rfl, by omega, by rw [List.length_append, hp]; rfl, ?_, same_mut hs np, li_push⟩
      rw [← he, List.append_assoc, show m.toNat - i = (m.toNat - (i + 1)) + 1 by omega, show (0 + ((i + 1 : Nat) : Int)) = 0 + (i : Int) + 1 by omega]
      rfl
    · rintro σ H1 ⟨x, v4, pre, rfl, _, hp, he, hs, hL⟩
      refine ⟨_, rfl, h1 p _ hs np ?_⟩
      rw [← he, Nat.sub_self]
      show Li _ _ (pre ++ [])
      rw [List.append_nil]
      exact hL
def blk (c : Int) (m : Nat) : List Int := (draws c m 997).map (· % 256)
theorem blk_len (c : Int) (m : Nat) : (blk c m).length = m := by
  unfold blk
  rw [List.length_map, draws_len]
theorem blk_mem (c : Int) (m : Nat) : ∀ d ∈ blk c m, 0 ≤ d ∧ d < 256 := by
  intro d h
  obtain ⟨e, _, rfl⟩ := List.mem_map.mp h
  exact ⟨Int.emod_nonneg _ (by decide), Int.emod_lt_of_pos _ (by decide)⟩
--PART /work/steering/wip/parts/strmul.lean


--PART /work/steering/wip/parts/sorttx.lean


--PART /work/steering/wip/parts/encnum.lean
--PART /work/steering/wip/parts/texts.lean
/-! ### texts -/
abbrev AL : Str := "abcdefghijklmnopqrstuvwxyz0123456789./"
def codeI (c : Nat) : Int := Txt.find AL ⟨#[c]⟩
def okT (t : Str) : Prop := ∀ c ∈ t.cps.toList, 0 ≤ codeI c
instance (t : Str) : Decidable (okT t) := by unfold okT; infer_instance
def encT (t : Str) : List Int := vint t.length ++ t.cps.toList.map codeI
theorem str_len (t : Str) : t.length = t.cps.toList.length := rfl
theorem encT_len {t : Str} (h : t.length ≤ 100000) : (encT t).length ≤ 100100 := by
  unfold encT
  rw [List.length_append, List.length_map, ← str_len]
  have := vint_len100 (n := (t.length : Int)) (Int.lt_of_le_of_lt (b := 100000) (by omega) (by decide +kernel))
  omega
theorem encT_le {t : Str} (h : t.length ≤ 100000) : (encT t).length ≤ t.length + 100 := by
  unfold encT
  rw [List.length_append, List.length_map, ← str_len]
  have := vint_len100 (n := (t.length : Int)) (Int.lt_of_le_of_lt (b := 100000) (by omega) (by decide +kernel))
  omega
theorem small_NB {n : Nat} (h : n ≤ 100000) : ((n : Nat) : Int) < NB := Int.lt_of_le_of_lt (b := 100000) (by omega) (by decide +kernel)
theorem for_its {t : Str} {g : TG} {tb : TS} {D : Ends} {σ : L2.St} {H : Hp} (Pv : Nat → L2.St → Hp → Prop) (h0 : Pv 0 σ H)
    (hs : ∀ (i : Nat) (c : Nat) (σ : L2.St) (H : Hp), t.cps.toList[i]? = some c → Pv i σ H → g (.str ⟨#[c]⟩) σ H fun σ2 H2 => tb { nx := Pv (i + 1), rt := D.rt, bk := D.nx, ct := Pv (i + 1) } σ2 H2)
    (hd : ∀ (σ : L2.St) (H : Hp), Pv t.length σ H → D.nx σ H) :
    ∃ W : Nat → Nat → L2.St → Hp → Prop, (∃ m, W 0 m σ H) ∧ ∀ (i m : Nat) (σ : L2.St) (H : Hp), W i m σ H → ((Its t).stop i H ∧ D.nx σ H) ∨ ((Its t).go i H ∧ ∃ N : L2.St → Hp → Prop, (∀ (σ' : L2.St) (H' : Hp), N σ' H' → ∃ m', m' < m ∧ W (i + 1) m' σ' H') ∧
      ∀ (x : V) (H' : Hp), (Its t).yld i H x H' → g x σ H' fun σ2 H2 => tb { nx := N, rt := D.rt, bk := D.nx, ct := N } σ2 H2) := by
  refine ⟨fun i m σ H => m = t.length - i ∧ i ≤ t.length ∧ Pv i σ H, ⟨_, rfl, Nat.zero_le _, h0⟩, ?_⟩
  rintro i m σ H ⟨rfl, hi, hp⟩
  by_cases k : i < t.length
  · refine .inr ⟨k, Pv (i + 1), fun σ' H' hq => ⟨_, by omega, rfl, k, hq⟩, ?_⟩
    rintro x H' ⟨rfl, c, hc, rfl⟩
    exact hs i c σ H' (by rw [Array.getElem?_toList]; exact hc) hp
  · have e : i = t.length := by omega
    subst e
    exact .inl ⟨Nat.le_refl _, hd σ H hp⟩
theorem glue_sg (a : Array Nat) : ∀ L : List Nat, List.foldl (fun acc (p : Str) => acc ++ Str.empty.cps ++ p.cps) a (L.map fun c => (⟨#[c]⟩ : Str)) = a ++ L.toArray
  | [] => by simp
  | c :: r => by
    rw [List.map_cons, List.foldl_cons, glue_sg _ r]
    show (a ++ #[] ++ #[c]) ++ r.toArray = _
    simp
theorem join_sg (L : List Nat) : Txt.join Str.empty (L.map fun c => (⟨#[c]⟩ : Str)) = ⟨L.toArray⟩ := by
  cases L with
  | nil => rfl
  | cons c r =>
    show (⟨List.foldl (fun acc (p : Str) => acc ++ Str.empty.cps ++ p.cps) #[c] (r.map fun c => (⟨#[c]⟩ : Str))⟩ : Str) = _
    rw [glue_sg]
    simp
theorem sum_sg (L : List Nat) : ((L.map fun c => (⟨#[c]⟩ : Str)).map (·.length)).sum = L.length := by
  induction L with
  | nil => rfl
  | cons c r ih =>
    rw [List.map_cons, List.map_cons, List.sum_cons, ih, List.length_cons]
    show 1 + r.length = _
    omega
/-! list or tuple -/
def Sq (K : PySem.W.Frag) (H : Hp) (a : Addr) (xs : List V) : Prop := SqL K H a xs ∨ SqT K H a xs
theorem sqt_same {K : PySem.W.Frag} {H H' : Hp} {a : Addr} {xs : List V} (s : Same H H') (h : SqT K H a xs) : SqT K H' a xs := by
  rcases h with h1 | h1
  · rcases h1 with h1 | ⟨o, h1⟩
    · exact .inl (.inl (s _ _ h1))
    · exact .inl (.inr ⟨o, s _ _ h1⟩)
  · exact .inr h1
theorem Sq.same {K : PySem.W.Frag} {H H' : Hp} {a : Addr} {xs : List V} (h : Sq K H a xs) (s : Same H H') : Sq K H' a xs := h.elim (fun h => .inl (s.seq h)) fun h => .inr (sqt_same s h)
theorem Sq.len {K : PySem.W.Frag} {H : Hp} {a : Addr} {xs : List V} (h : Sq K H a xs) : LenV K (V.ref a) H xs.length := h.elim (fun h => .inl ⟨_, h, rfl⟩) fun h => .inr ⟨_, h, rfl⟩
/-- a for over a list or a tuple that stands in a slot -/
theorem for_seq {K : PySem.W.Frag} {a : Addr} {xs : List V} {j : Nat} {g : TG} {tb : TS} {D : Ends} {σ : L2.St} {H H0 : Hp} (Pv : Nat → L2.St → Hp → Prop) (hj : σ[j]? = some (some (V.ref a))) (hS : Sq K H0 a xs) (sH : Same H0 H)
    (h0 : Pv 0 σ H) (hs : ∀ (i : Nat) (σ' : L2.St) (H' : Hp), i ≤ xs.length → Pv i σ' H' → Same H0 H')
    (hb : ∀ (i : Nat) (x : V) (σ : L2.St) (H : Hp), xs[i]? = some x → Pv i σ H → g x σ H fun σ2 H2 => tb { nx := Pv (i + 1), rt := D.rt, bk := D.nx, ct := Pv (i + 1) } σ2 H2) (hd : ∀ (σ : L2.St) (H : Hp), Pv xs.length σ H → D.nx σ H) :
    iSeq K (tVar j) σ H fun J H1 => ∃ W : Nat → Nat → L2.St → Hp → Prop, (∃ m, W 0 m σ H1) ∧ ∀ (i m : Nat) (σ : L2.St) (H : Hp), W i m σ H → (J.stop i H ∧ D.nx σ H) ∨ (J.go i H ∧ ∃ N : L2.St → Hp → Prop, (∀ (σ' : L2.St) (H' : Hp), N σ' H' → ∃ m', m' < m ∧ W (i + 1) m' σ' H') ∧
      ∀ (x : V) (H' : Hp), J.yld i H x H' → g x σ H' fun σ2 H2 => tb { nx := N, rt := D.rt, bk := D.nx, ct := N } σ2 H2) := by
  rcases hS with hS | hS
  · exact .inl ⟨_, hj, a, rfl, ⟨_, sH.seq hS⟩, for_list Pv h0 (fun i σ' H' hi hp => (hs i σ' H' hi hp).seq hS) hb hd⟩
  · exact .inr ⟨_, hj, a, rfl, ⟨_, sqt_same sH hS⟩, for_tup Pv h0 (fun i σ' H' hi hp => sqt_same (hs i σ' H' hi hp) hS) hb hd⟩
def encTs (ts : List Str) : List Int := vint ts.length ++ ts.flatMap encT
theorem encTs_len : ∀ (ts : List Str), (∀ t ∈ ts, t.length ≤ 400) → (ts.flatMap encT).length ≤ 500 * ts.length
  | [], _ => by simp
  | t :: r, h => by
    have := encTs_len r fun t ht => h t (List.mem_cons_of_mem _ ht)
    have h1 := h t List.mem_cons_self
    have h2 : (encT t).length ≤ 500 := by
      unfold encT
      rw [List.length_append, List.length_map, ← str_len]
      have := vint_len100 (n := (t.length : Int)) (Int.lt_of_le_of_lt (b := 100000) (by omega) (by decide +kernel))
      omega
    rw [List.flatMap_cons, List.length_append, List.length_cons]
    omega
theorem mem_str {ts : List Str} {i : Nat} {x : V} (hx : (ts.map V.str)[i]? = some x) : ∃ t, ts[i]? = some t ∧ x = V.str t := by
  rw [List.getElem?_map] at hx
  cases e : ts[i]? with
  | none => rw [e] at hx; cases hx
  | some u => rw [e] at hx; exact ⟨u, rfl, (Option.some.inj hx).symm⟩
def chr (d : Int) : Nat := AL.cps.toList.getD d.toNat 0
theorem al_len : AL.cps.toList.length = 38 := by decide +kernel
theorem al_ok : ∀ c ∈ AL.cps.toList, 0 ≤ codeI c := by decide +kernel
theorem chr_mem {d : Int} (h0 : 0 ≤ d) (h : d < 38) : chr d ∈ AL.cps.toList := by
  unfold chr
  rw [List.getD_eq_getElem?_getD, List.getElem?_eq_getElem (by rw [al_len]; omega)]
  exact List.getElem_mem _
theorem at_chr {d : Int} (h0 : 0 ≤ d) (h : d < 38) : atI AL.cps.toList d = some (chr d) := by
  have e : d = ((d.toNat : Nat) : Int) := by omega
  have k : AL.cps.toList[d.toNat]? = some (chr d) := by
    unfold chr
    rw [List.getD_eq_getElem?_getD, List.getElem?_eq_getElem (by rw [al_len]; omega)]
    rfl
  have := atI_nat k
  rw [← e] at this
  exact this
def ltxt (c : Int) (m : Nat) : Str := ⟨((draws c m 38).map chr).toArray⟩
theorem ltxt_len (c : Int) (m : Nat) : (ltxt c m).length = m := by
  rw [str_len]
  show ((draws c m 38).map chr).length = m
  rw [List.length_map, draws_len]
theorem ltxt_ok (c : Int) (m : Nat) : okT (ltxt c m) := by
  intro x hx
  have hx : x ∈ (draws c m 38).map chr := hx
  obtain ⟨d, hd, rfl⟩ := List.mem_map.mp hx
  have := draws_mem (c := c) (m := m) (l := 38) (by decide) d hd
  exact al_ok _ (chr_mem this.1 this.2)
abbrev sg (c : Nat) : Str := ⟨#[c]⟩
/-! texts of the alphabet; lists of texts as data -/
def alT (t : Str) : Prop := ∀ c ∈ t.cps.toList, c ∈ AL.cps.toList
theorem alT.ok {t : Str} (h : alT t) : okT t := fun c hc => al_ok c (h c hc)
theorem al_small : ∀ c ∈ AL.cps.toList, c < 1114112 := by decide +kernel
theorem alT.strOk {t : Str} (h : alT t) : PyData.strOk t = true := by
  unfold PyData.strOk
  rw [Array.all_eq_true_iff_forall_mem]
  intro c hc
  exact decide_eq_true (al_small c (h c (Array.mem_toList_iff.mpr hc)))
theorem ltxt_al (c : Int) (m : Nat) : alT (ltxt c m) := by
  intro x hx
  have hx : x ∈ (draws c m 38).map chr := hx
  obtain ⟨d, hd, rfl⟩ := List.mem_map.mp hx
  have := draws_mem (c := c) (m := m) (l := 38) (by decide) d hd
  exact chr_mem this.1 this.2
def dStrs (ts : List Str) : PyData := .list (ts.map PyData.str)
theorem dp_all_strs {K : PySem.W.Frag} {H : Hp} : ∀ ts : List Str, DpAll K H (ts.map V.str) (ts.map PyData.str)
  | [] => .nil
  | n :: r => .cons (.str n) (dp_all_strs r)
theorem dp_strs {K : PySem.W.Frag} {H : Hp} {a : Addr} {ts : List Str} (h : SqL K H a (ts.map V.str)) : Dp K H (.ref a) (dStrs ts) := .lst h (dp_all_strs ts)
theorem good_strs : ∀ ts : List Str, (∀ t ∈ ts, alT t) → PyData.canLayAll0 (ts.map PyData.str) = true ∧ PyData.depthAll (ts.map PyData.str) = 0 ∧ PyData.eqvAll (ts.map PyData.str) (ts.map PyData.str) = true
  | [], _ => ⟨rfl, by rw [List.map_nil, PyData.depthAll], rfl⟩
  | t :: r, h => by
    obtain ⟨h1, h2, h3⟩ := good_strs r fun x hx => h x (List.mem_cons_of_mem _ hx)
    refine ⟨?_, ?_, ?_⟩
    · show (PyData.canLay0 (.str t) && PyData.canLayAll0 (r.map PyData.str)) = true
      rw [h1, show PyData.canLay0 (.str t) = true by unfold PyData.canLay0; exact (h t List.mem_cons_self).strOk]
      rfl
    · show PyData.depthAll (.str t :: r.map PyData.str) = 0
      rw [PyData.depthAll, h2, PyData.depth]
      rfl
    · show ((t == t) && PyData.eqvAll (r.map PyData.str) (r.map PyData.str)) = true
      rw [h3]
      simp
theorem shaped_strs {ts : List Str} (h : ∀ t ∈ ts, alT t) : SeqAt.shaped (dStrs ts) = true := by
  obtain ⟨h1, h2, _⟩ := good_strs ts h
  unfold SeqAt.shaped dStrs
  rw [show PyData.canLay0 (.list (ts.map PyData.str)) = true from by unfold PyData.canLay0; exact h1]
  have : PyData.depth (.list (ts.map PyData.str)) = 1 := by
    unfold PyData.depth
    rw [h2]
  rw [this]
  decide
theorem eqv_strs {ts : List Str} (h : ∀ t ∈ ts, alT t) : PyData.eqv (dStrs ts) (dStrs ts) = true := (good_strs ts h).2.2
theorem inV_str (k : Str) (ts : List Str) : inV (.str k) (ts.map V.str) = decide (k ∈ ts) := by
  unfold inV
  induction ts with
  | nil => simp
  | cons t r ih =>
    rw [List.map_cons, List.any_cons, ih]
    show ((t == k) || decide (k ∈ r)) = _
    by_cases e : t = k
    · subst e; simp
    · have e2 : ¬ k = t := fun q => e q.symm
      simp [e, e2]
theorem flat_strs (ts : List Str) : (ts.map V.str).all flatV = true := by
  induction ts with
  | nil => rfl
  | cons t r ih => rw [List.map_cons, List.all_cons, ih]; rfl
theorem cutS_len (z : Str) (lo hi : Option Int) : (cutS z lo hi).length ≤ z.length := by
  show (List.take _ (List.drop _ z.cps.toList)).length ≤ z.cps.toList.length
  rw [List.length_take, List.length_drop]
  omega
theorem app_len (a b : Str) : (a ++ b).length = a.length + b.length := by
  show (a.cps ++ b.cps).size = _
  rw [Array.size_append]
  rfl

--PART /work/steering/wip/parts/ascend.lean
/-! ### ascending texts -/
abbrev ltS (a b : Str) : Prop := a.cps.toList < b.cps.toList
theorem ltS_trans {a b c : Str} (h : ltS a b) (k : ltS b c) : ltS a c := List.lt_trans h k
theorem ltS_irrefl (a : Str) : ¬ ltS a a := List.lt_irrefl _
theorem str_ext {a b : Str} (h : a.cps.toList = b.cps.toList) : a = b := by
  obtain ⟨⟨x⟩⟩ := a
  obtain ⟨⟨y⟩⟩ := b
  have : x = y := h
  rw [this]
theorem ltS_of {a b : Str} (h : ¬ ltS b a) (n : a ≠ b) : ltS a b := Std.lt_of_le_of_ne h fun q => n (str_ext q)
theorem ltS_ne {b : Str} (h : ltS Str.empty b) : b ≠ Str.empty := fun q => ltS_irrefl _ (q ▸ h)
theorem ltS_empty {b : Str} (h : b ≠ Str.empty) : ltS Str.empty b := ltS_of (fun q => absurd q (List.not_lt_nil _)) (Ne.symm h)
def ascS : Str → List Str → Bool
  | _, [] => true
  | p, k :: r => decide (ltS p k) && ascS k r
theorem asc_pw : ∀ (p : Str) (ts : List Str), ascS p ts = true ↔ (p :: ts).Pairwise ltS
  | p, [] => by simp [ascS]
  | p, k :: r => by
    have ih := asc_pw k r
    show (decide (ltS p k) && ascS k r) = true ↔ _
    rw [Bool.and_eq_true, decide_eq_true_iff, ih]
    constructor
    · rintro ⟨h1, h2⟩
      exact List.pairwise_cons.mpr ⟨fun x hx => by
        rcases List.mem_cons.mp hx with e | e
        · rw [e]; exact h1
        · exact ltS_trans h1 ((List.pairwise_cons.mp h2).1 x e), h2⟩
    · intro h
      exact ⟨(List.pairwise_cons.mp h).1 k List.mem_cons_self, (List.pairwise_cons.mp h).2⟩
theorem rising_asc : ∀ (p : Str) (ys : List Str), risingS p ys = true → (p :: ys).Nodup → ascS p ys = true
  | _, [], _, _ => rfl
  | p, k :: r, h, hn => by
    have h : (!ltCps k.cps.toList p.cps.toList && risingS k r) = true := h
    rw [Bool.and_eq_true, ltCps_eq] at h
    have h1 : ¬ ltS k p := by simpa using h.1
    have hn2 := List.nodup_cons.mp hn
    show (decide (ltS p k) && ascS k r) = true
    rw [Bool.and_eq_true, decide_eq_true_iff]
    exact ⟨ltS_of h1 fun q => hn2.1 (q ▸ List.mem_cons_self), rising_asc k r h.2 hn2.2⟩
theorem sorted_asc {ys : List Str} (h : sortedS ys = true) (hn : ys.Nodup) (he : Str.empty ∉ ys) : ascS Str.empty ys = true := by
  cases ys with
  | nil => rfl
  | cons k r =>
    have h : risingS k r = true := h
    show (decide (ltS Str.empty k) && ascS k r) = true
    rw [Bool.and_eq_true, decide_eq_true_iff]
    exact ⟨ltS_empty fun q => he (q ▸ List.mem_cons_self), rising_asc k r h hn⟩
--PART /work/steering/wip/parts/lawkeys.lean
/-! ### the law's keys -/
instance (t : Str) : Decidable (alT t) := by unfold alT; infer_instance
theorem sg_len (c : Nat) : (sg c).length = 1 := rfl
theorem chr_at (d : Int) (h0 : 0 ≤ d) (h : d < 38) : atI AL.cps.toList d = some (chr d) := at_chr h0 h
theorem rep_al {z : Str} (h : alT z) (n : Nat) : alT (repS z n) := by
  have key : ∀ (n : Nat) (a : Array Nat), (∀ c ∈ a.toList, c ∈ AL.cps.toList) → ∀ c ∈ (List.foldl (fun (x y : Array Nat) => x ++ y) a (List.replicate n z.cps)).toList, c ∈ AL.cps.toList := by
    intro n
    induction n with
    | zero => intro a ha; exact ha
    | succ n ih =>
      intro a ha
      rw [List.replicate_succ, List.foldl_cons]
      refine ih _ fun c hc => ?_
      rw [Array.toList_append] at hc
      rcases List.mem_append.mp hc with q | q
      · exact ha c q
      · exact h c q
  exact key n #[] fun c hc => by simp at hc
theorem app_al {a b : Str} (ha : alT a) (hb : alT b) : alT (a ++ b) := by
  intro c hc
  have hc : c ∈ (a.cps ++ b.cps).toList := hc
  rw [Array.toList_append] at hc
  rcases List.mem_append.mp hc with q | q
  · exact ha c q
  · exact hb c q
theorem chr_al {d : Int} (h0 : 0 ≤ d) (h : d < 38) : alT (sg (chr d)) := by
  intro c hc
  have : c = chr d := by simpa using hc
  rw [this]
  exact chr_mem h0 h
theorem at_dd {D : List Int} {z : Int} (j : Nat) (e : z = (j : Int)) (h : j < D.length) : atI (D.map V.int) z = some (.int (D.getD j 0)) := at_of e (by rw [List.getElem?_map, List.getD_eq_getElem?_getD, List.getElem?_eq_getElem h]; rfl)
theorem draws_at {c : Int} {m : Nat} {l : Int} (hl : 0 < l) {j : Nat} (h : j < m) : 0 ≤ (draws c m l).getD j 0 ∧ (draws c m l).getD j 0 < l := draws_mem hl _ (by
  rw [List.getD_eq_getElem?_getD, List.getElem?_eq_getElem (by rw [draws_len]; exact h)]
  exact List.getElem_mem _)
def kOk (ks : List Str) (n : Nat) : Prop := ∀ k ∈ ks, alT k ∧ 1 ≤ k.length ∧ k.length ≤ n
def sp__law_keys (T : Env K mg w) : Sp := fun vs H Q E => ∃ c : Int, vs = [.int c] ∧ 0 ≤ c ∧ ∀ (p : Addr) (ks : List Str) (H' : Hp), Same H H' → H p = none → ks.length = 4 → kOk ks 10 → H' p = some (.lst (ks.map V.str)) → Q (.ref p) H'
theorem ok__law_keys (T : Env K mg w) : FnOk P w K mg base (L2.CX P w) 2 T.a__law_keys T.d__law_keys ["cell"] (sp__law_keys T) := by
  refine T.F__law_keys.okX sc__law_keys (fun vs H Q E h => by obtain ⟨_, rfl, _⟩ := h; rfl) (fun cdv A outer s H vs Q E hr h => ?_)
  obtain ⟨c, rfl, hc, h1⟩ := h
  have hu64 := hu64_of hr
  have G__law_draws := ok__law_draws (P := P) (w := w) (base := base) T
  refine ⟨_, (pss_cons (ps_set (i := 1) sc__law_keys.nd rfl (Or.inl rfl) pe_str)
      (pss_cons (ps_set (i := 2) sc__law_keys.nd rfl (Or.inl rfl) (pe_call G__law_draws (hr.mono (by decide)) rfl T.g__law_draws T.F__law_draws.kp T.b__law_draws .nil passL (pa_cons (pv 0) (pa_cons pe_int (pa_cons pe_int pa_nil)))))
      (pss_cons (ps_set (i := 3) sc__law_keys.nd rfl (Or.inl rfl) (pe_lst pa_nil))
      (pss_cons (ps_for (passes_of rfl) rfl (pi_range1 rfl T.z_range (pa_cons pe_int pa_nil)) (pg_name (i := 4) sc__law_keys.nd rfl (Or.inl rfl)) (pss_cons (ps_set (i := 5) sc__law_keys.nd rfl (Or.inl rfl) (pe_op op_mul_str (pe_ix ix_str (pv 1) (pe_ix ix_list (pv 2) (pv 4) (fun _ _ => rfl)) (fun _ _ => rfl)) (pe_op op_mod (pe_callTy call_int1 (by rfl) T.z_int (by decide +kernel) (pa_cons (pe_ix ix_list (pv 2) (pe_op op_add (pv 4) pe_int) (fun _ _ => rfl)) pa_nil)) pe_int)))
      (pss_one (ps_expr (pe_bm PySem.F.plainAttrs_list PySem.F.slot_list_append PySem.F.type_list_append mt_append (pv 3) (pa_cons (pe_op op_add_str (pv 5) (pe_ix ix_str (pv 1) (pe_op op_mod (pe_callTy call_int1 (by rfl) T.z_int (by decide +kernel) (pa_cons (pe_op op_add (pe_op op_add (pe_ix ix_list (pv 2) pe_int (fun _ _ => rfl)) (pe_op op_mul pe_int (pv 4))) (pe_op op_mod (pe_callTy call_int1 (by rfl) T.z_int (by decide +kernel) (pa_cons (pe_ix ix_list (pv 2) (pe_op op_add (pv 4) pe_int) (fun _ _ => rfl)) pa_nil)) pe_int)) pa_nil)) pe_int) (fun _ _ => rfl))) pa_nil))))))
      (pss_cons (ps_set (i := 6) sc__law_keys.nd rfl (Or.inl rfl) (pe_lst pa_nil))
      (pss_cons (ps_for (passes_of rfl) rfl (pi_list (pe_callB cr_sortedS (by rfl) T.z_sorted (by decide +kernel) (pa_cons (pv 3) pa_nil))) (pg_name (i := 7) sc__law_keys.nd rfl (Or.inl rfl)) (pss_one (ps_if (pt_cmpR op_notIn_seq (pv 7) (pv 6) rfl) (pss_one (ps_expr (pe_bm PySem.F.plainAttrs_list PySem.F.slot_list_append PySem.F.type_list_append mt_append (pv 6) (pa_cons (pv 7) pa_nil)))) pss_nil)))
      (pss_cons (ps_while (passes_of rfl) (pt_cmpR op_lt (pe_callB call_len (by rfl) T.z_len (by decide +kernel) (pa_cons (pv 6) pa_nil)) pe_int (nomark _)) (pss_one (ps_expr (pe_bm PySem.F.plainAttrs_list PySem.F.slot_list_append PySem.F.type_list_append mt_append (pv 6) (pa_cons (pe_op op_add_str (pe_ix ix_list (pv 6) (pe_un un_neg pe_int) (fun _ _ => rfl)) pe_str) pa_nil)))))
      (pss_one (ps_ret (pv 6)))))))))), ?_⟩
  refine ⟨_, rfl, c, 8, 38, rfl, by decide, by decide, by decide, by decide, fun pN H1 s1 npN hN => ?_⟩
  have hDl : (draws c (8 : Int).toNat 38).length = 8 := draws_len _ _ _
  have hg : ∀ j, j < 8 → 0 ≤ (draws c (8 : Int).toNat 38).getD j 0 ∧ (draws c (8 : Int).toNat 38).getD j 0 < 38 := fun j hj => draws_at (by decide) hj
  generalize draws c (8 : Int).toNat 38 = D at hN hDl hg
  refine ⟨Nat.zero_le _, fun pk npk => ?_⟩
  have npk0 : H pk = none := s1.free npk
  have s2 := s1.trans (same_new (o := .lst []) npk)
  have hN2 := same_new (o := .lst []) npk _ _ hN
  refine ⟨4, rfl, by decide, by decide, for_range (n := 4) (fun i σ H' => ∃ v4 v5, ∃ ks : List Str, σ = [some (.int c), some (.str AL), some (.ref pN), some (.ref pk), v4, v5, none, none] ∧ Same H H' ∧ Li H' pN D ∧ H' pk = some (.lst (ks.map V.str)) ∧ ks.length = i ∧ kOk ks 3) ⟨none, none, [], rfl, s2, hN2, upd_same, rfl, fun k h => by simp at h⟩ ?_ ?_⟩
  · rintro i σ H' hi ⟨v4, v5, ks, rfl, sA, hN', hK, hl, hk⟩
    have g0 := hg 0 (by omega)
    have gi := hg i (by omega)
    have gi4 := hg (i + 4) (by omega)
    have hAl : AL.length ≤ sizeLine := by rw [str_len, al_len]; exact szle (by decide)
    refine ⟨_, rfl, _, rfl, _, rfl, pN, _, _, _, rfl, rfl, SqL.of hN', at_dd (D := D) i (by omega) (by omega), _, _, _, rfl, rfl, hAl, chr_at _ gi.1 gi.2, ?_⟩
    refine ⟨_, rfl, _, rfl, _, _, rfl, rfl, pN, _, _, _, rfl, rfl, SqL.of hN', at_dd (D := D) (i + 4) (by omega) (by omega), .inl ⟨_, rfl, _, _, rfl, rfl, by show (0 : Int) < _; decide, _, _, rfl, rfl, by omega, by omega, (by show 1 ≤ 1000; decide), ?_⟩⟩
    have hH : alT (repS (sg (chr (D.getD i 0))) (D.getD (i + 4) 0 % 3).toNat) := rep_al (chr_al gi.1 gi.2) _
    have hHl : (repS (sg (chr (D.getD i 0))) (D.getD (i + 4) 0 % 3).toNat).length ≤ 2 := by rw [repS_len, sg_len]; omega
    show tSeq _ _ _ [some (.int c), some (.str AL), some (.ref pN), some (.ref pk), some (.int (0 + (i : Int))), some (.str (repS (sg (chr (D.getD i 0))) (D.getD (i + 4) 0 % 3).toNat)), none, none] H'
    generalize repS (sg (chr (D.getD i 0))) (D.getD (i + 4) 0 % 3).toNat = hd at hH hHl
    obtain ⟨z, hz, hz0, hz38⟩ : ∃ z, (D.getD 0 0 + 9 * (0 + (i : Int)) + D.getD (i + 4) 0 % 5) % 38 = z ∧ 0 ≤ z ∧ z < 38 := ⟨_, rfl, by omega, by omega⟩
    refine ⟨_, rfl, .inl ⟨rfl, _, SqL.of hK⟩, _, rfl, _, rfl, _, rfl, pN, _, _, _, rfl, rfl, SqL.of hN', at_dd (D := D) 0 rfl (by omega), ?_⟩
    refine ⟨_, rfl, _, _, rfl, rfl, .inl ⟨by decide, by decide⟩, _, _, rfl, rfl, ?_⟩
    refine ⟨_, rfl, _, rfl, _, _, rfl, rfl, pN, _, _, _, rfl, rfl, SqL.of hN', at_dd (D := D) (i + 4) (by omega) (by omega), .inl ⟨_, rfl, _, _, rfl, rfl, by show (0 : Int) < _; decide, _, _, rfl, rfl, .inl ⟨_, rfl, _, _, rfl, rfl, by show (0 : Int) < _; decide, ?_⟩⟩⟩
    refine ⟨_, _, chr z, rfl, rfl, hAl, (by show atI AL.cps.toList ((D.getD 0 0 + 9 * (0 + (i : Int)) + D.getD (i + 4) 0 % 5) % 38) = _; rw [hz]; exact chr_at z hz0 hz38), _, _, rfl, rfl, (by exact szle (by show hd.length + 1 ≤ _; omega)), _, _, _, rfl, rfl, hK, szl (by rw [List.length_map]; omega), ?_⟩
    have hpn : pN ≠ pk := ne_of_none hN npk
    refine ⟨_, _, ks ++ [hd ++ sg (chr z)], rfl, same_mut sA npk0, ?_, by rw [upd_same, List.map_append]; rfl, by rw [List.length_append, hl]; rfl, ?_⟩
    · show upd _ _ _ _ = _
      rw [upd_ne hpn]
      exact hN'
    · intro k h
      rcases List.mem_append.mp h with q | q
      · exact hk k q
      · have : k = hd ++ sg (chr z) := by simpa using q
        rw [this]
        refine ⟨app_al hH (chr_al hz0 hz38), ?_, ?_⟩ <;> rw [app_len, sg_len] <;> omega
  rintro σ H2 ⟨v4, v5, ks, rfl, sA, hN', hK, hl, hk⟩
  clear hg hN' hN2 s2
  refine ⟨Nat.zero_le _, fun po npo => ?_⟩
  have npo0 : H po = none := sA.free npo
  have s3 := sA.trans (same_new (o := .lst []) npo)
  have hK3 := same_new (o := .lst []) npo _ _ hK
  have hO3 : upd H2 po (.lst []) po = some (.lst (([] : List Str).map V.str)) := upd_same
  show tSeq _ _ _ _ (upd H2 po (.lst []))
  generalize upd H2 po (.lst []) = H3 at s3 hK3 hO3
  refine ⟨_, rfl, pk, ks, rfl, SqL.of hK3, by omega, fun ys p hperm hsort np => ?_⟩
  have hyl : ys.length = 4 := by rw [hperm.length_eq, hl]
  have hyk : kOk ys 3 := fun k h => hk k (hperm.mem_iff.mp h)
  have hpo : po ≠ p := ne_of_none hO3 np
  have s4 := s3.trans (same_new (o := .lst (ys.map V.str)) np)
  have hO4 := same_new (o := .lst (ys.map V.str)) np _ _ hO3
  have hP : upd H3 p (.lst (ys.map V.str)) p = some (.lst (ys.map V.str)) := upd_same
  refine ⟨p, rfl, ⟨_, SqL.of hP⟩, ?_⟩
  generalize upd H3 p (.lst (ys.map V.str)) = H4 at s4 hO4 hP
  refine for_list (K := K) (a := p) (xs := ys.map V.str) (fun i σ H' => ∃ v7, ∃ os : List Str, σ = [some (.int c), some (.str AL), some (.ref pN), some (.ref pk), v4, v5, some (.ref po), v7] ∧ Same H H' ∧ H' p = some (.lst (ys.map V.str)) ∧ H' po = some (.lst (os.map V.str)) ∧ os.length ≤ i ∧ (0 < i → 0 < os.length) ∧ kOk os 3) ⟨none, [], rfl, s4, hP, hO4, Nat.le_refl _, fun h => absurd h (by decide), fun k h => by simp at h⟩ (fun i σ H' _ ⟨_, _, _, _, h, _⟩ => SqL.of h) ?_ ?_
  · rintro i x σ H' hx ⟨v7, os, rfl, sB, hp, hO, hl1, hl2, hko⟩
    obtain ⟨t, ht, rfl⟩ := mem_str hx
    refine ⟨_, rfl, _, rfl, po, os.map V.str, rfl, .inl (SqL.of hO), rfl, flat_strs os, _, rfl, ?_⟩
    rw [inV_str]
    by_cases cc : t ∈ os
    · exact ifF (by rw [decide_eq_true cc]; rfl) ⟨_, os, rfl, sB, hp, hO, by omega, fun _ => List.length_pos_of_mem cc, hko⟩
    · refine ifT (by rw [decide_eq_false cc]; rfl) ⟨_, rfl, .inl ⟨rfl, _, SqL.of hO⟩, _, rfl, _, _, _, rfl, rfl, hO, szl (by rw [List.length_map]; have := (List.getElem?_eq_some_iff.mp ht).1; omega), ?_⟩
      refine ⟨_, os ++ [t], rfl, same_mut sB npo0, by rw [upd_ne (Ne.symm hpo)]; exact hp, by rw [upd_same, List.map_append]; rfl, by rw [List.length_append]; show os.length + 1 ≤ _; omega, fun _ => by rw [List.length_append]; show 0 < os.length + 1; omega, ?_⟩
      intro k h
      rcases List.mem_append.mp h with q | q
      · exact hko k q
      · have : k = t := by simpa using q
        rw [this]
        exact hyk t (List.mem_of_getElem? ht)
  rintro σ H5 ⟨v7, os, rfl, sB, hp, hO, hl1, hl2, hko⟩
  rw [List.length_map, hyl] at hl1 hl2
  have hl2 := hl2 (by decide)
  refine ⟨fun m σ H' => ∃ os : List Str, m = 4 - os.length ∧ σ = [some (.int c), some (.str AL), some (.ref pN), some (.ref pk), v4, v5, some (.ref po), v7] ∧ Same H H' ∧ H' po = some (.lst (os.map V.str)) ∧ 1 ≤ os.length ∧ os.length ≤ 4 ∧ kOk os (2 + os.length), ⟨_, os, rfl, rfl, sB, hO, hl2, hl1, fun k h => by have := hko k h; exact ⟨this.1, this.2.1, by omega⟩⟩, ?_⟩
  rintro m σ H' ⟨os, rfl, rfl, sC, hO, ho1, ho4, hko⟩
  refine ⟨_, rfl, _, _, rfl, .inl ⟨_, SqL.of hO, rfl⟩, _, _, rfl, rfl, _, rfl, iteD (fun cc => ?_) (fun cc => ?_)⟩
  · rw [List.length_map] at cc
    refine ⟨fun σ' H' => _, fun _ _ h => h, ?_⟩
    obtain ⟨t, htl⟩ : ∃ t, os[os.length - 1]? = some t := ⟨_, List.getElem?_eq_getElem (by omega)⟩
    have htm := List.mem_of_getElem? htl
    obtain ⟨hta, ht1, ht2⟩ := hko t htm
    refine ⟨_, rfl, .inl ⟨rfl, _, SqL.of hO⟩, _, rfl, _, rfl, po, _, _, .str t, rfl, rfl, SqL.of hO, ?_, _, _, rfl, rfl, (by exact szle (by show t.length + 1 ≤ _; omega)), _, _, _, rfl, rfl, hO, szl (by rw [List.length_map]; omega), ?_⟩
    · unfold atI ixN
      rw [if_neg (by decide), if_pos (by rw [List.length_map]; omega), List.length_map]
      show (os.map V.str)[((-1 : Int) + (os.length : Nat)).toNat]? = _
      rw [show ((-1 : Int) + (os.length : Nat)).toNat = os.length - 1 by omega, List.getElem?_map, htl]
      rfl
    · refine ⟨4 - (os ++ [t ++ ("a" : Str)]).length, by rw [List.length_append]; show 4 - (os.length + 1) < _; omega, os ++ [t ++ ("a" : Str)], rfl, rfl, same_mut sC npo0, by rw [upd_same, List.map_append]; rfl, by rw [List.length_append]; omega, by rw [List.length_append]; show os.length + 1 ≤ _; omega, ?_⟩
      intro k h
      rw [List.length_append]
      show alT k ∧ 1 ≤ k.length ∧ k.length ≤ 2 + (os.length + 1)
      rcases List.mem_append.mp h with q | q
      · have := hko k q
        exact ⟨this.1, this.2.1, by omega⟩
      · have : k = t ++ ("a" : Str) := by simpa using q
        rw [this]
        refine ⟨app_al hta (by decide +kernel), ?_, ?_⟩ <;> rw [app_len] <;> show _ + 1 ≤ _ <;> omega
  · rw [List.length_map] at cc
    exact ⟨_, rfl, h1 po os _ sC npo0 (by omega) (fun k h => by have := hko k h; exact ⟨this.1, this.2.1, by omega⟩) hO⟩

--PART /work/steering/wip/parts/like.lean
/-! ### values that are alike -/
inductive Sc : V → Prop
  | non : Sc .non
  | int (i : Int) : Sc (.int i)
  | bl (b : Bool) : Sc (.bl b)
  | str (s : Str) : Sc (.str s)
def Lk : Nat → Hp → V → V → Prop
  | 0, _, x, y => x = y ∧ Sc x
  | n + 1, H, x, y => (x = y ∧ Sc x) ∨ ∃ (p q : Addr) (xs ys : List V), x = .ref p ∧ y = .ref q ∧ ((H p = some (.lst xs) ∧ H q = some (.lst ys)) ∨ (H p = some (.tup xs) ∧ H q = some (.tup ys))) ∧ xs.length = ys.length ∧ xs.length ≤ 1000 ∧
      ∀ (j : Nat) (x' y' : V), xs[j]? = some x' → ys[j]? = some y' → Lk n H x' y'
theorem Lk.same : ∀ (n : Nat) {H H' : Hp} {x y : V}, Lk n H x y → Same H H' → Lk n H' x y
  | 0, _, _, _, _, h, _ => h
  | n + 1, H, H', x, y, h, s => by
    rcases h with h | ⟨p, q, xs, ys, h1, h2, h3, h4, h5, h6⟩
    · exact .inl h
    · exact .inr ⟨p, q, xs, ys, h1, h2, h3.elim (fun h => .inl ⟨s _ _ h.1, s _ _ h.2⟩) (fun h => .inr ⟨s _ _ h.1, s _ _ h.2⟩), h4, h5, fun j x' y' a b => (h6 j x' y' a b).same n s⟩
def sp__law_like (T : Env K mg w) (n : Nat) : Sp := fun vs H Q E => ∃ x y : V, vs = [x, y] ∧ Lk n H x y ∧ ∀ H', Same H H' → Q (.bl true) H'
theorem all_true (n : Nat) : (List.replicate n true).all id = true := by simp
theorem like_sc (T : Env K mg w) {Q : VK} {H : Hp} {x : V} : True := trivial
theorem ok__law_like (T : Env K mg w) : ∀ n : Nat, FnOk P w K mg base (L2.CX P w) (n + 2) T.a__law_like T.d__law_like ["actual", "due"] (sp__law_like T n) := by
  intro n
  induction n with
  | zero =>
    refine T.F__law_like.okX sc__law_like (fun vs H Q E h => by obtain ⟨_, _, rfl, _⟩ := h; rfl) (fun cdv A outer s H vs Q E hr h => ?_)
    have hu64 := hu64_of hr
    have G__law_like : FnOk P w K mg base (L2.CX P w) 1 T.a__law_like T.d__law_like ["actual", "due"] (fun _ _ _ _ => False) := ⟨fun _ _ _ _ h => h.elim, fun _ _ _ _ _ _ _ _ _ _ _ _ _ h => h.elim⟩
    obtain ⟨x, y, rfl, ⟨rfl, hsc⟩, h1⟩ := h
    refine ⟨_, (pss_cons (ps_if (pt_cmpR op_isN (pv 1) pe_non (nomark _)) (pss_one (ps_ret (pe_cmpR op_isN (pv 0) pe_non (nomark _)))) pss_nil)
      (pss_cons (ps_if (pt_val (pe_callB call_isi (by rfl) T.z_isinstance (by decide +kernel) (pa_cons (pv 1) (pa_cons (pe_bltn (v := .ty "bool") (by rfl) T.z_bool (by decide +kernel) rfl) pa_nil)))) (pss_one (ps_ret (pe_and (pe_callB call_isi (by rfl) T.z_isinstance (by decide +kernel) (pa_cons (pv 0) (pa_cons (pe_bltn (v := .ty "bool") (by rfl) T.z_bool (by decide +kernel) rfl) pa_nil))) (pe_one (pe_cmpR op_eq (pv 0) (pv 1) (nomark _)))))) pss_nil)
      (pss_cons (ps_if (pt_val (pe_callB call_isi (by rfl) T.z_isinstance (by decide +kernel) (pa_cons (pv 1) (pa_cons (pe_bltn (v := .ty "str") (by rfl) T.z_str (by decide +kernel) rfl) pa_nil)))) (pss_one (ps_ret (pe_and (pe_callB call_isi (by rfl) T.z_isinstance (by decide +kernel) (pa_cons (pv 0) (pa_cons (pe_bltn (v := .ty "str") (by rfl) T.z_str (by decide +kernel) rfl) pa_nil))) (pe_one (pe_cmpR op_eq (pv 0) (pv 1) (nomark _)))))) pss_nil)
      (pss_cons (ps_if (pt_val (pe_callB call_isi (by rfl) T.z_isinstance (by decide +kernel) (pa_cons (pv 1) (pa_cons (pe_bltn (v := .ty "int") (by rfl) T.z_int (by decide +kernel) rfl) pa_nil)))) (pss_one (ps_ret (pe_and (pe_callB call_isi (by rfl) T.z_isinstance (by decide +kernel) (pa_cons (pv 0) (pa_cons (pe_bltn (v := .ty "int") (by rfl) T.z_int (by decide +kernel) rfl) pa_nil))) (pe_and (pe_not (pe_callB call_isi (by rfl) T.z_isinstance (by decide +kernel) (pa_cons (pv 0) (pa_cons (pe_bltn (v := .ty "bool") (by rfl) T.z_bool (by decide +kernel) rfl) pa_nil)))) (pe_one (pe_cmpR op_eq (pv 0) (pv 1) (nomark _))))))) pss_nil)
      (pss_cons (ps_if (PW.pt (pw_or (pt_cmpR op_ne (pe_callB call_isi (by rfl) T.z_isinstance (by decide +kernel) (pa_cons (pv 1) (pa_cons (pe_bltn (v := .ty "list") (by rfl) T.z_list (by decide +kernel) rfl) pa_nil))) (pe_callB call_isi (by rfl) T.z_isinstance (by decide +kernel) (pa_cons (pv 0) (pa_cons (pe_bltn (v := .ty "list") (by rfl) T.z_list (by decide +kernel) rfl) pa_nil))) (nomark _)) (pw_or1 (pt_cmpR op_ne (pe_callB call_isi (by rfl) T.z_isinstance (by decide +kernel) (pa_cons (pv 1) (pa_cons (pe_bltn (v := .ty "tuple") (by rfl) T.z_tuple (by decide +kernel) rfl) pa_nil))) (pe_callB call_isi (by rfl) T.z_isinstance (by decide +kernel) (pa_cons (pv 0) (pa_cons (pe_bltn (v := .ty "tuple") (by rfl) T.z_tuple (by decide +kernel) rfl) pa_nil))) (nomark _))))) (pss_one (ps_ret pe_bl)) pss_nil)
      (pss_cons (ps_if (pt_cmpR op_ne (pe_callB call_len (by rfl) T.z_len (by decide +kernel) (pa_cons (pv 0) pa_nil)) (pe_callB call_len (by rfl) T.z_len (by decide +kernel) (pa_cons (pv 1) pa_nil)) (nomark _)) (pss_one (ps_ret pe_bl)) pss_nil)
      (pss_one (ps_ret (pe_callB (cr_all rfl) (by rfl) T.z_all (by decide +kernel) (pa_cons (pe_lc (own := [("k", 2)]) (by rfl) sc__law_like.nd (pi_range1 rfl T.z_range (pa_cons (pe_callB call_len (by rfl) T.z_len (by decide +kernel) (pa_cons (pv 1) pa_nil)) pa_nil)) (blkOk_by (own := [("k", 2)]) (N := ["actual", "due", "k"]) (sc := defScope s__law_like) (by decide +kernel)) (fun _ _ _ _ _ => (pg_name (i := 2) sc__law_like.nd rfl (Or.inl rfl))) (fun _ _ _ _ _ => pts_nil) (fun _ _ _ _ _ => (pe_call G__law_like (hr.mono (by omega)) rfl T.g__law_like T.F__law_like.kp T.b__law_like .nil passL (pa_cons (pe_either (pe_ix (ixK (K := K) (r := rIxL) rfl ix_list) (pv 0) (pv 2) (fun _ _ => rfl)) (pe_ix (ixK (K := K) (r := rIxT) rfl ix_tup) (pv 0) (pv 2) (fun _ _ => rfl))) (pa_cons (pe_either (pe_ix (ixK (K := K) (r := rIxL) rfl ix_list) (pv 1) (pv 2) (fun _ _ => rfl)) (pe_ix (ixK (K := K) (r := rIxT) rfl ix_tup) (pv 1) (pv 2) (fun _ _ => rfl))) pa_nil))))) pa_nil)))))))))), ?_⟩
    cases hsc with
    | non =>
      refine ⟨_, rfl, rfl, _, rfl, ifT (by simp) ?_⟩
      exact ⟨_, rfl, rfl, by simpa using h1 _ (Same.refl _)⟩
    | bl b =>
      refine ⟨_, rfl, rfl, _, rfl, ifF (by simp) ?_⟩
      refine ⟨_, rfl, _, _, _, _, _, rfl, .ty _, .base (.bl _), kit_ty (b := "bool") (r := true) (by decide +kernel), _, rfl, ifT rfl ?_⟩
      refine ⟨_, rfl, _, _, _, _, _, rfl, .ty _, .base (.bl _), kit_ty (b := "bool") (r := true) (by decide +kernel), _, rfl, iteT ?_⟩
      refine ⟨_, rfl, _, rfl, by cases b <;> rfl, ?_⟩
      rw [decide_eq_true rfl]
      exact h1 _ (Same.refl _)
    | str z =>
      refine ⟨_, rfl, rfl, _, rfl, ifF (by simp) ?_⟩
      refine ⟨_, rfl, _, _, _, _, _, rfl, .ty _, .base (.str _), kit_ty (b := "bool") (r := false) (by decide +kernel), _, rfl, ifF rfl ?_⟩
      refine ⟨_, rfl, _, _, _, _, _, rfl, .ty _, .base (.str _), kit_ty (b := "str") (r := true) (by decide +kernel), _, rfl, ifT rfl ?_⟩
      refine ⟨_, rfl, _, _, _, _, _, rfl, .ty _, .base (.str _), kit_ty (b := "str") (r := true) (by decide +kernel), _, rfl, iteT ?_⟩
      refine ⟨_, rfl, _, rfl, rfl, ?_⟩
      rw [decide_eq_true rfl]
      exact h1 _ (Same.refl _)
    | int i =>
      refine ⟨_, rfl, rfl, _, rfl, ifF (by simp) ?_⟩
      refine ⟨_, rfl, _, _, _, _, _, rfl, .ty _, .base (.int _), kit_ty (b := "bool") (r := false) (by decide +kernel), _, rfl, ifF rfl ?_⟩
      refine ⟨_, rfl, _, _, _, _, _, rfl, .ty _, .base (.int _), kit_ty (b := "str") (r := false) (by decide +kernel), _, rfl, ifF rfl ?_⟩
      refine ⟨_, rfl, _, _, _, _, _, rfl, .ty _, .base (.int _), kit_ty (b := "int") (r := true) (by decide +kernel), _, rfl, ifT rfl ?_⟩
      refine ⟨_, rfl, _, _, _, _, _, rfl, .ty _, .base (.int _), kit_ty (b := "int") (r := true) (by decide +kernel), _, rfl, iteT ?_⟩
      refine ⟨_, rfl, _, _, _, _, _, rfl, .ty _, .base (.int _), kit_ty (b := "bool") (r := false) (by decide +kernel), _, rfl, _, rfl, iteT ?_⟩
      refine ⟨_, rfl, _, rfl, rfl, ?_⟩
      rw [decide_eq_true rfl]
      exact h1 _ (Same.refl _)
  | succ n ih =>
    refine T.F__law_like.okX sc__law_like (fun vs H Q E h => by obtain ⟨_, _, rfl, _⟩ := h; rfl) (fun cdv A outer s H vs Q E hr h => ?_)
    have hu64 := hu64_of hr
    have G__law_like := ih
    obtain ⟨x, y, rfl, h, h1⟩ := h
    refine ⟨_, (pss_cons (ps_if (pt_cmpR op_isN (pv 1) pe_non (nomark _)) (pss_one (ps_ret (pe_cmpR op_isN (pv 0) pe_non (nomark _)))) pss_nil)
      (pss_cons (ps_if (pt_val (pe_callB call_isi (by rfl) T.z_isinstance (by decide +kernel) (pa_cons (pv 1) (pa_cons (pe_bltn (v := .ty "bool") (by rfl) T.z_bool (by decide +kernel) rfl) pa_nil)))) (pss_one (ps_ret (pe_and (pe_callB call_isi (by rfl) T.z_isinstance (by decide +kernel) (pa_cons (pv 0) (pa_cons (pe_bltn (v := .ty "bool") (by rfl) T.z_bool (by decide +kernel) rfl) pa_nil))) (pe_one (pe_cmpR op_eq (pv 0) (pv 1) (nomark _)))))) pss_nil)
      (pss_cons (ps_if (pt_val (pe_callB call_isi (by rfl) T.z_isinstance (by decide +kernel) (pa_cons (pv 1) (pa_cons (pe_bltn (v := .ty "str") (by rfl) T.z_str (by decide +kernel) rfl) pa_nil)))) (pss_one (ps_ret (pe_and (pe_callB call_isi (by rfl) T.z_isinstance (by decide +kernel) (pa_cons (pv 0) (pa_cons (pe_bltn (v := .ty "str") (by rfl) T.z_str (by decide +kernel) rfl) pa_nil))) (pe_one (pe_cmpR op_eq (pv 0) (pv 1) (nomark _)))))) pss_nil)
      (pss_cons (ps_if (pt_val (pe_callB call_isi (by rfl) T.z_isinstance (by decide +kernel) (pa_cons (pv 1) (pa_cons (pe_bltn (v := .ty "int") (by rfl) T.z_int (by decide +kernel) rfl) pa_nil)))) (pss_one (ps_ret (pe_and (pe_callB call_isi (by rfl) T.z_isinstance (by decide +kernel) (pa_cons (pv 0) (pa_cons (pe_bltn (v := .ty "int") (by rfl) T.z_int (by decide +kernel) rfl) pa_nil))) (pe_and (pe_not (pe_callB call_isi (by rfl) T.z_isinstance (by decide +kernel) (pa_cons (pv 0) (pa_cons (pe_bltn (v := .ty "bool") (by rfl) T.z_bool (by decide +kernel) rfl) pa_nil)))) (pe_one (pe_cmpR op_eq (pv 0) (pv 1) (nomark _))))))) pss_nil)
      (pss_cons (ps_if (PW.pt (pw_or (pt_cmpR op_ne (pe_callB call_isi (by rfl) T.z_isinstance (by decide +kernel) (pa_cons (pv 1) (pa_cons (pe_bltn (v := .ty "list") (by rfl) T.z_list (by decide +kernel) rfl) pa_nil))) (pe_callB call_isi (by rfl) T.z_isinstance (by decide +kernel) (pa_cons (pv 0) (pa_cons (pe_bltn (v := .ty "list") (by rfl) T.z_list (by decide +kernel) rfl) pa_nil))) (nomark _)) (pw_or1 (pt_cmpR op_ne (pe_callB call_isi (by rfl) T.z_isinstance (by decide +kernel) (pa_cons (pv 1) (pa_cons (pe_bltn (v := .ty "tuple") (by rfl) T.z_tuple (by decide +kernel) rfl) pa_nil))) (pe_callB call_isi (by rfl) T.z_isinstance (by decide +kernel) (pa_cons (pv 0) (pa_cons (pe_bltn (v := .ty "tuple") (by rfl) T.z_tuple (by decide +kernel) rfl) pa_nil))) (nomark _))))) (pss_one (ps_ret pe_bl)) pss_nil)
      (pss_cons (ps_if (pt_cmpR op_ne (pe_callB call_len (by rfl) T.z_len (by decide +kernel) (pa_cons (pv 0) pa_nil)) (pe_callB call_len (by rfl) T.z_len (by decide +kernel) (pa_cons (pv 1) pa_nil)) (nomark _)) (pss_one (ps_ret pe_bl)) pss_nil)
      (pss_one (ps_ret (pe_callB (cr_all rfl) (by rfl) T.z_all (by decide +kernel) (pa_cons (pe_lc (own := [("k", 2)]) (by rfl) sc__law_like.nd (pi_range1 rfl T.z_range (pa_cons (pe_callB call_len (by rfl) T.z_len (by decide +kernel) (pa_cons (pv 1) pa_nil)) pa_nil)) (blkOk_by (own := [("k", 2)]) (N := ["actual", "due", "k"]) (sc := defScope s__law_like) (by decide +kernel)) (fun _ _ _ _ _ => (pg_name (i := 2) sc__law_like.nd rfl (Or.inl rfl))) (fun _ _ _ _ _ => pts_nil) (fun _ _ _ _ _ => (pe_call G__law_like (hr.mono (by omega)) rfl T.g__law_like T.F__law_like.kp T.b__law_like .nil passL (pa_cons (pe_either (pe_ix (ixK (K := K) (r := rIxL) rfl ix_list) (pv 0) (pv 2) (fun _ _ => rfl)) (pe_ix (ixK (K := K) (r := rIxT) rfl ix_tup) (pv 0) (pv 2) (fun _ _ => rfl))) (pa_cons (pe_either (pe_ix (ixK (K := K) (r := rIxL) rfl ix_list) (pv 1) (pv 2) (fun _ _ => rfl)) (pe_ix (ixK (K := K) (r := rIxT) rfl ix_tup) (pv 1) (pv 2) (fun _ _ => rfl))) pa_nil))))) pa_nil)))))))))), ?_⟩
    rcases h with ⟨rfl, hsc⟩ | ⟨p, q, xs, ys, rfl, rfl, h3, hl, hl2, hj⟩
    · cases hsc with
      | non =>
        refine ⟨_, rfl, rfl, _, rfl, ifT (by simp) ?_⟩
        exact ⟨_, rfl, rfl, by simpa using h1 _ (Same.refl _)⟩
      | bl b =>
        refine ⟨_, rfl, rfl, _, rfl, ifF (by simp) ?_⟩
        refine ⟨_, rfl, _, _, _, _, _, rfl, .ty _, .base (.bl _), kit_ty (b := "bool") (r := true) (by decide +kernel), _, rfl, ifT rfl ?_⟩
        refine ⟨_, rfl, _, _, _, _, _, rfl, .ty _, .base (.bl _), kit_ty (b := "bool") (r := true) (by decide +kernel), _, rfl, iteT ?_⟩
        refine ⟨_, rfl, _, rfl, by cases b <;> rfl, ?_⟩
        rw [decide_eq_true rfl]
        exact h1 _ (Same.refl _)
      | str z =>
        refine ⟨_, rfl, rfl, _, rfl, ifF (by simp) ?_⟩
        refine ⟨_, rfl, _, _, _, _, _, rfl, .ty _, .base (.str _), kit_ty (b := "bool") (r := false) (by decide +kernel), _, rfl, ifF rfl ?_⟩
        refine ⟨_, rfl, _, _, _, _, _, rfl, .ty _, .base (.str _), kit_ty (b := "str") (r := true) (by decide +kernel), _, rfl, ifT rfl ?_⟩
        refine ⟨_, rfl, _, _, _, _, _, rfl, .ty _, .base (.str _), kit_ty (b := "str") (r := true) (by decide +kernel), _, rfl, iteT ?_⟩
        refine ⟨_, rfl, _, rfl, rfl, ?_⟩
        rw [decide_eq_true rfl]
        exact h1 _ (Same.refl _)
      | int i =>
        refine ⟨_, rfl, rfl, _, rfl, ifF (by simp) ?_⟩
        refine ⟨_, rfl, _, _, _, _, _, rfl, .ty _, .base (.int _), kit_ty (b := "bool") (r := false) (by decide +kernel), _, rfl, ifF rfl ?_⟩
        refine ⟨_, rfl, _, _, _, _, _, rfl, .ty _, .base (.int _), kit_ty (b := "str") (r := false) (by decide +kernel), _, rfl, ifF rfl ?_⟩
        refine ⟨_, rfl, _, _, _, _, _, rfl, .ty _, .base (.int _), kit_ty (b := "int") (r := true) (by decide +kernel), _, rfl, ifT rfl ?_⟩
        refine ⟨_, rfl, _, _, _, _, _, rfl, .ty _, .base (.int _), kit_ty (b := "int") (r := true) (by decide +kernel), _, rfl, iteT ?_⟩
        refine ⟨_, rfl, _, _, _, _, _, rfl, .ty _, .base (.int _), kit_ty (b := "bool") (r := false) (by decide +kernel), _, rfl, _, rfl, iteT ?_⟩
        refine ⟨_, rfl, _, rfl, rfl, ?_⟩
        rw [decide_eq_true rfl]
        exact h1 _ (Same.refl _)
    · refine ⟨_, rfl, rfl, _, rfl, ifF (by simp) ?_⟩
      rcases h3 with ⟨hp, hq⟩ | ⟨hp, hq⟩
      · refine ⟨_, rfl, _, _, _, _, _, rfl, .ty _, .base (.lst hq), kit_ty (b := "bool") (r := false) (by decide +kernel), _, rfl, ifF rfl ?_⟩
        refine ⟨_, rfl, _, _, _, _, _, rfl, .ty _, .base (.lst hq), kit_ty (b := "str") (r := false) (by decide +kernel), _, rfl, ifF rfl ?_⟩
        refine ⟨_, rfl, _, _, _, _, _, rfl, .ty _, .base (.lst hq), kit_ty (b := "int") (r := false) (by decide +kernel), _, rfl, ifF rfl ?_⟩
        refine ⟨_, rfl, _, _, _, _, _, rfl, .ty _, .base (.lst hq), kit_ty (b := "list") (r := true) (by decide +kernel), _, rfl, _, _, _, _, _, rfl, .ty _, .base (.lst hp), kit_ty (b := "list") (r := true) (by decide +kernel), rfl, _, rfl, ifF (by decide) ?_⟩
        refine ⟨_, rfl, _, _, _, _, _, rfl, .ty _, .base (.lst hq), kit_ty (b := "tuple") (r := false) (by decide +kernel), _, rfl, _, _, _, _, _, rfl, .ty _, .base (.lst hp), kit_ty (b := "tuple") (r := false) (by decide +kernel), rfl, _, rfl, ifF (by decide) ?_⟩
        refine ⟨_, rfl, _, _, rfl, .inl ⟨_, SqL.of hp, rfl⟩, _, rfl, _, _, rfl, .inl ⟨_, SqL.of hq, rfl⟩, rfl, _, rfl, ifF (by rw [hl]; simp) ?_⟩
        refine ⟨_, rfl, _, _, rfl, .inl ⟨_, SqL.of hq, rfl⟩, _, rfl, by omega, by omega, fun D hD => ?_⟩
        rw [Int.toNat_natCast]
        refine lc_range (fun i H' => Same H H' ∧ H' D = some (.lst ((List.replicate i true).map V.bl))) ⟨same_new hD, upd_same⟩ ?_ ?_
        · rintro i H' hi ⟨sA, hDD⟩
          obtain ⟨y', hy'⟩ : ∃ y', ys[i]? = some y' := ⟨_, List.getElem?_eq_getElem hi⟩
          obtain ⟨x', hx'⟩ : ∃ x', xs[i]? = some x' := ⟨_, List.getElem?_eq_getElem (by omega)⟩
          have hii : (0 : Int) + (i : Int) = ((i : Nat) : Int) := by omega
          refine ⟨rfl, yes_if ?_⟩
          refine .inl ⟨_, rfl, _, rfl, p, _, _, x', rfl, rfl, SqL.of (sA _ _ hp), (by rw [hii]; exact atI_nat hx'), .inl ⟨_, rfl, _, rfl, q, _, _, y', rfl, rfl, SqL.of (sA _ _ hq), (by rw [hii]; exact atI_nat hy'), ?_⟩⟩
          refine ⟨x', y', rfl, (hj i x' y' hx' hy').same n sA, fun H2 s2 => ⟨_, s2 _ _ hDD, szl (by rw [List.length_map, List.length_replicate]; omega), same_mut (sA.trans s2) hD, ?_⟩⟩
          rw [upd_same, List.replicate_succ', List.map_append]
          rfl
        · rintro H' ⟨sA, hDD⟩
          exact ⟨D, _, rfl, SqL.of hDD, by rw [all_true]; exact h1 _ sA⟩
      · refine ⟨_, rfl, _, _, _, _, _, rfl, .ty _, .base (.tup hq), kit_ty (b := "bool") (r := false) (by decide +kernel), _, rfl, ifF rfl ?_⟩
        refine ⟨_, rfl, _, _, _, _, _, rfl, .ty _, .base (.tup hq), kit_ty (b := "str") (r := false) (by decide +kernel), _, rfl, ifF rfl ?_⟩
        refine ⟨_, rfl, _, _, _, _, _, rfl, .ty _, .base (.tup hq), kit_ty (b := "int") (r := false) (by decide +kernel), _, rfl, ifF rfl ?_⟩
        refine ⟨_, rfl, _, _, _, _, _, rfl, .ty _, .base (.tup hq), kit_ty (b := "list") (r := false) (by decide +kernel), _, rfl, _, _, _, _, _, rfl, .ty _, .base (.tup hp), kit_ty (b := "list") (r := false) (by decide +kernel), rfl, _, rfl, ifF (by decide) ?_⟩
        refine ⟨_, rfl, _, _, _, _, _, rfl, .ty _, .base (.tup hq), kit_ty (b := "tuple") (r := true) (by decide +kernel), _, rfl, _, _, _, _, _, rfl, .ty _, .base (.tup hp), kit_ty (b := "tuple") (r := true) (by decide +kernel), rfl, _, rfl, ifF (by decide) ?_⟩
        refine ⟨_, rfl, _, _, rfl, .inr ⟨_, SqT.of hp, rfl⟩, _, rfl, _, _, rfl, .inr ⟨_, SqT.of hq, rfl⟩, rfl, _, rfl, ifF (by rw [hl]; simp) ?_⟩
        refine ⟨_, rfl, _, _, rfl, .inr ⟨_, SqT.of hq, rfl⟩, _, rfl, by omega, by omega, fun D hD => ?_⟩
        rw [Int.toNat_natCast]
        refine lc_range (fun i H' => Same H H' ∧ H' D = some (.lst ((List.replicate i true).map V.bl))) ⟨same_new hD, upd_same⟩ ?_ ?_
        · rintro i H' hi ⟨sA, hDD⟩
          obtain ⟨y', hy'⟩ : ∃ y', ys[i]? = some y' := ⟨_, List.getElem?_eq_getElem hi⟩
          obtain ⟨x', hx'⟩ : ∃ x', xs[i]? = some x' := ⟨_, List.getElem?_eq_getElem (by omega)⟩
          have hii : (0 : Int) + (i : Int) = ((i : Nat) : Int) := by omega
          refine ⟨rfl, yes_if ?_⟩
          refine .inr ⟨_, rfl, _, rfl, p, _, _, x', rfl, rfl, SqT.of (sA _ _ hp), (by rw [hii]; exact atI_nat hx'), .inr ⟨_, rfl, _, rfl, q, _, _, y', rfl, rfl, SqT.of (sA _ _ hq), (by rw [hii]; exact atI_nat hy'), ?_⟩⟩
          refine ⟨x', y', rfl, (hj i x' y' hx' hy').same n sA, fun H2 s2 => ⟨_, s2 _ _ hDD, szl (by rw [List.length_map, List.length_replicate]; omega), same_mut (sA.trans s2) hD, ?_⟩⟩
          rw [upd_same, List.replicate_succ', List.map_append]
          rfl
        · rintro H' ⟨sA, hDD⟩
          exact ⟨D, _, rfl, SqL.of hDD, by rw [all_true]; exact h1 _ sA⟩

--PART /work/steering/wip/parts/progs.lean
/-! ### programs -/
inductive Op
  | read (k : Str) | put (k : Str) (n : Int) | drop (k : Str) | add (k : Str) (n : Int) | need (k : Str) (n : Int) | equal (k : Str) (v : Option Int) | copy (a b : Str)
def oV : Option Int → V
  | none => .non
  | some i => .int i
def Op.vs : Op → List V
  | .read k => [.str "read", .str k]
  | .put k n => [.str "put", .str k, .int n]
  | .drop k => [.str "drop", .str k]
  | .add k n => [.str "add", .str k, .int n]
  | .need k n => [.str "need", .str k, .int n]
  | .equal k v => [.str "equal", .str k, oV v]
  | .copy a b => [.str "copy", .str a, .str b]
def OpAt (H : Hp) (a : Addr) (o : Op) : Prop := H a = some (.tup o.vs)
def Op.rk : Op → Option Str
  | .read k | .add k _ | .need k _ | .equal k _ | .copy k _ => some k
  | _ => none
def Op.ck : Op → Option Str
  | .put k _ | .drop k | .add k _ | .copy _ k => some k
  | _ => none
def Op.gu : Op → Option Int → Bool
  | .need _ _, none => true
  | .need _ n, some i => decide (i < n)
  | .equal _ w, v => decide (v ≠ w)
  | _, _ => false
def Op.nv : Op → Option Int → Option Int
  | .put _ n, _ => some n
  | .copy _ _, v => v
  | .add _ n, none => some n
  | .add _ n, some i => some (i + n)
  | _, _ => none
abbrev Mp := List (Str × Option Int)
def mget (M : Mp) (k : Str) : Option (Option Int) := (M.find? fun kv => decide (kv.1 = k)).map (·.2)
def mput (M : Mp) (k : Str) (v : Option Int) : Mp := if (M.any fun kv => decide (kv.1 = k)) = true then M.map (fun kv => if kv.1 = k then (kv.1, v) else kv) else M ++ [(k, v)]
def toK (M : Mp) : List (Key × V) := M.map fun kv => (.inr kv.1, oV kv.2)
theorem toK_get (M : Mp) (k : Str) : valV (toK M) (Sum.inr k : Key) = (mget M k).map oV := by
  unfold valV mget toK
  induction M with
  | nil => rfl
  | cons a r ih =>
    rw [List.map_cons, List.find?_cons, List.find?_cons]
    by_cases h : a.1 = k
    · rw [decide_eq_true (show (Sum.inr a.1 : Key) = Sum.inr k by rw [h]), decide_eq_true h]
      rfl
    · rw [decide_eq_false (show ¬ (Sum.inr a.1 : Key) = Sum.inr k from fun q => h (Sum.inr.inj q)), decide_eq_false h]
      exact ih
theorem toK_any (M : Mp) (k : Str) : ((toK M).any fun kv => decide (kv.1 = (Sum.inr k : Key))) = M.any fun kv => decide (kv.1 = k) := by
  unfold toK
  induction M with
  | nil => rfl
  | cons a r ih =>
    rw [List.map_cons, List.any_cons, List.any_cons, ih]
    congr 1
    by_cases h : a.1 = k
    · rw [decide_eq_true (show (Sum.inr a.1 : Key) = Sum.inr k by rw [h]), decide_eq_true h]
    · rw [decide_eq_false (show ¬ (Sum.inr a.1 : Key) = Sum.inr k from fun q => h (Sum.inr.inj q)), decide_eq_false h]
theorem toK_put (M : Mp) (k : Str) (v : Option Int) : putK (toK M) (Sum.inr k : Key) (oV v) = toK (mput M k v) := by
  unfold putK mput
  rw [toK_any]
  by_cases h : (M.any fun kv => decide (kv.1 = k)) = true
  · rw [if_pos h, if_pos h]
    unfold toK
    rw [List.map_map, List.map_map]
    refine List.map_congr_left fun a _ => ?_
    show (if (Sum.inr a.1 : Key) = Sum.inr k then ((Sum.inr a.1 : Key), oV v) else (Sum.inr a.1, oV a.2)) = _
    by_cases c : a.1 = k
    · rw [if_pos (show (Sum.inr a.1 : Key) = Sum.inr k by rw [c])]
      show _ = (fun kv : Str × Option Int => ((Sum.inr kv.1 : Key), oV kv.2)) (if a.1 = k then (a.1, v) else a)
      rw [if_pos c]
    · rw [if_neg (show ¬ (Sum.inr a.1 : Key) = Sum.inr k from fun q => c (Sum.inr.inj q))]
      show _ = (fun kv : Str × Option Int => ((Sum.inr kv.1 : Key), oV kv.2)) (if a.1 = k then (a.1, v) else a)
      rw [if_neg c]
  · rw [if_neg h, if_neg h]
    unfold toK
    rw [List.map_append]
    rfl
theorem mget_mput (M : Mp) (k : Str) (v : Option Int) (j : Str) : mget (mput M k v) j = if j = k then some v else mget M j := by
  have gen : ∀ M : Mp, (M.map fun kv => if kv.1 = k then (kv.1, v) else kv).find? (fun kv => decide (kv.1 = j)) = (M.find? fun kv => decide (kv.1 = j)).map fun kv => if kv.1 = k then (kv.1, v) else kv := by
    intro M
    induction M with
    | nil => rfl
    | cons a r ih =>
      rw [List.map_cons, List.find?_cons, List.find?_cons]
      have e : (if a.1 = k then (a.1, v) else a).1 = a.1 := by split <;> rfl
      rw [e]
      by_cases h : a.1 = j
      · rw [decide_eq_true h]
        rfl
      · rw [decide_eq_false h]
        exact ih
  unfold mput mget
  by_cases h : (M.any fun kv => decide (kv.1 = k)) = true
  · rw [if_pos h, gen]
    by_cases c : j = k
    · rw [if_pos c]
      subst c
      obtain ⟨x, hx, hxk⟩ := List.any_eq_true.mp h
      cases q : M.find? fun kv => decide (kv.1 = j) with
      | none => exact absurd hxk (by simpa using List.find?_eq_none.mp q x hx)
      | some y =>
        have := List.find?_some q
        have e : y.1 = j := by simpa using this
        show some (if y.1 = j then (y.1, v) else y).2 = _
        rw [if_pos e]
    · rw [if_neg c]
      cases q : M.find? fun kv => decide (kv.1 = j) with
      | none => rfl
      | some y =>
        have := List.find?_some q
        have e : y.1 = j := by simpa using this
        show some (if y.1 = k then (y.1, v) else y).2 = some y.2
        rw [if_neg (fun z => c (e.symm.trans z))]
  · rw [if_neg h, List.find?_append]
    have hn : M.find? (fun kv => decide (kv.1 = k)) = none := by
      rw [List.find?_eq_none]
      intro x hx q
      exact h (List.any_eq_true.mpr ⟨x, hx, q⟩)
    by_cases c : j = k
    · rw [if_pos c]
      subst c
      rw [hn]
      simp
    · rw [if_neg c]
      have : [(k, v)].find? (fun kv : Str × Option Int => decide (kv.1 = j)) = none := by simp [Ne.symm c]
      rw [this]
      cases M.find? fun kv => decide (kv.1 = j) <;> rfl
theorem mput_len (M : Mp) (k : Str) (v : Option Int) : (mput M k v).length ≤ M.length + 1 := by
  unfold mput
  split
  · rw [List.length_map]; omega
  · rw [List.length_append]; exact Nat.le_refl _
inductive Res
  | ask (k : Str) | quit | done (C : Mp)
def val (K0 C : Mp) (k : Str) : Option (Option Int) := match mget C k with
  | some v => some v
  | none => mget K0 k
def updC (C : Mp) (o : Op) (v : Option Int) : Mp := match o.ck with
  | some k => mput C k (o.nv v)
  | none => C
def runP (K0 : Mp) : List Op → Mp → Res
  | [], C => .done C
  | o :: r, C => match o.rk with
    | some k => match val K0 C k with
      | none => .ask k
      | some v => if o.gu v = true then .quit else runP K0 r (updC C o v)
    | none => if o.gu none = true then .quit else runP K0 r (updC C o none)
def sp__gives_up (T : Env K mg w) : Sp := fun vs H Q E => ∃ (a : Addr) (o : Op) (v : Option Int), vs = [.ref a, oV v] ∧ OpAt H a o ∧ Q (.bl (o.gu v)) H
theorem ok__gives_up (T : Env K mg w) : FnOk P w K mg base (L2.CX P w) 1 T.a__gives_up T.d__gives_up ["operation", "value"] (sp__gives_up T) := by
  refine T.F__gives_up.okX sc__gives_up (fun vs H Q E h => by obtain ⟨_, _, _, rfl, _⟩ := h; rfl) (fun cdv A outer s H vs Q E hr h => ?_)
  obtain ⟨a, o, v, rfl, hO, h1⟩ := h
  refine ⟨_, (pss_cons (ps_if (pt_cmpR op_eq (pe_ix ix_tup (pv 0) pe_int (fun _ _ => rfl)) pe_str (nomark _)) (pss_one (ps_ret (pe_or (pe_cmpR op_isN (pv 1) pe_non (nomark _)) (pe_one (pe_cmpR op_lt (pv 1) (pe_ix ix_tup (pv 0) pe_int (fun _ _ => rfl)) (nomark _)))))) pss_nil)
      (pss_one (ps_ret (pe_and (pe_cmpR op_eq (pe_ix ix_tup (pv 0) pe_int (fun _ _ => rfl)) pe_str (nomark _)) (pe_one (pe_cmpR op_ne (pv 1) (pe_ix ix_tup (pv 0) pe_int (fun _ _ => rfl)) (nomark _))))))), ?_⟩
  cases o with
  | read k =>
    refine ⟨_, rfl, a, _, _, _, rfl, rfl, SqT.of hO, atI_nat (j := 0) rfl, rfl, _, rfl, ifF (decide_eq_false fun q => absurd (V.str.inj q) (by decide +kernel)) ?_⟩
    exact ⟨_, rfl, a, _, _, _, rfl, rfl, SqT.of hO, atI_nat (j := 0) rfl, rfl, _, rfl, ifF (decide_eq_false fun q => absurd (V.str.inj q) (by decide +kernel)) (by cases v <;> exact h1)⟩
  | put k n =>
    refine ⟨_, rfl, a, _, _, _, rfl, rfl, SqT.of hO, atI_nat (j := 0) rfl, rfl, _, rfl, ifF (decide_eq_false fun q => absurd (V.str.inj q) (by decide +kernel)) ?_⟩
    exact ⟨_, rfl, a, _, _, _, rfl, rfl, SqT.of hO, atI_nat (j := 0) rfl, rfl, _, rfl, ifF (decide_eq_false fun q => absurd (V.str.inj q) (by decide +kernel)) (by cases v <;> exact h1)⟩
  | drop k =>
    refine ⟨_, rfl, a, _, _, _, rfl, rfl, SqT.of hO, atI_nat (j := 0) rfl, rfl, _, rfl, ifF (decide_eq_false fun q => absurd (V.str.inj q) (by decide +kernel)) ?_⟩
    exact ⟨_, rfl, a, _, _, _, rfl, rfl, SqT.of hO, atI_nat (j := 0) rfl, rfl, _, rfl, ifF (decide_eq_false fun q => absurd (V.str.inj q) (by decide +kernel)) (by cases v <;> exact h1)⟩
  | add k n =>
    refine ⟨_, rfl, a, _, _, _, rfl, rfl, SqT.of hO, atI_nat (j := 0) rfl, rfl, _, rfl, ifF (decide_eq_false fun q => absurd (V.str.inj q) (by decide +kernel)) ?_⟩
    exact ⟨_, rfl, a, _, _, _, rfl, rfl, SqT.of hO, atI_nat (j := 0) rfl, rfl, _, rfl, ifF (decide_eq_false fun q => absurd (V.str.inj q) (by decide +kernel)) (by cases v <;> exact h1)⟩
  | need k n =>
    refine ⟨_, rfl, a, _, _, _, rfl, rfl, SqT.of hO, atI_nat (j := 0) rfl, rfl, _, rfl, ifT (decide_eq_true rfl) ?_⟩
    cases v with
    | none => exact ⟨_, rfl, rfl, _, rfl, iteT h1⟩
    | some i => exact ⟨_, rfl, rfl, _, rfl, ifF rfl ⟨_, rfl, _, rfl, a, _, _, _, rfl, rfl, SqT.of hO, atI_nat (j := 2) rfl, _, _, rfl, rfl, h1⟩⟩
  | equal k w =>
    refine ⟨_, rfl, a, _, _, _, rfl, rfl, SqT.of hO, atI_nat (j := 0) rfl, rfl, _, rfl, ifF (decide_eq_false fun q => absurd (V.str.inj q) (by decide +kernel)) ?_⟩
    refine ⟨_, rfl, a, _, _, _, rfl, rfl, SqT.of hO, atI_nat (j := 0) rfl, rfl, _, rfl, ifT (decide_eq_true rfl) ?_⟩
    refine ⟨_, rfl, _, rfl, a, _, _, _, rfl, rfl, SqT.of hO, atI_nat (j := 2) rfl, ?_, ?_⟩
    · cases v <;> cases w <;> rfl
    · have e : (!decide (oV v = oV w)) = Op.gu (.equal k w) v := by
        show _ = decide (v ≠ w)
        by_cases c : v = w
        · subst c; simp
        · have c2 : ¬ oV v = oV w := fun q => c (by cases v <;> cases w <;> simp_all [oV])
          rw [decide_eq_false c2, decide_eq_true c]
          rfl
      rw [← e] at h1
      exact h1
  | copy k b =>
    refine ⟨_, rfl, a, _, _, _, rfl, rfl, SqT.of hO, atI_nat (j := 0) rfl, rfl, _, rfl, ifF (decide_eq_false fun q => absurd (V.str.inj q) (by decide +kernel)) ?_⟩
    exact ⟨_, rfl, a, _, _, _, rfl, rfl, SqT.of hO, atI_nat (j := 0) rfl, rfl, _, rfl, ifF (decide_eq_false fun q => absurd (V.str.inj q) (by decide +kernel)) (by cases v <;> exact h1)⟩
def sp__new_value (T : Env K mg w) : Sp := fun vs H Q E => ∃ (a : Addr) (o : Op) (v : Option Int), vs = [.ref a, oV v] ∧ OpAt H a o ∧ o.ck.isSome = true ∧ Q (oV (o.nv v)) H
theorem ok__new_value (T : Env K mg w) : FnOk P w K mg base (L2.CX P w) 1 T.a__new_value T.d__new_value ["operation", "value"] (sp__new_value T) := by
  refine T.F__new_value.okX sc__new_value (fun vs H Q E h => by obtain ⟨_, _, _, rfl, _⟩ := h; rfl) (fun cdv A outer s H vs Q E hr h => ?_)
  obtain ⟨a, o, v, rfl, hO, hck, h1⟩ := h
  refine ⟨_, (pss_cons (ps_if (pt_cmpR op_eq (pe_ix ix_tup (pv 0) pe_int (fun _ _ => rfl)) pe_str (nomark _)) (pss_one (ps_ret (pe_ix ix_tup (pv 0) pe_int (fun _ _ => rfl)))) pss_nil)
      (pss_cons (ps_if (pt_cmpR op_eq (pe_ix ix_tup (pv 0) pe_int (fun _ _ => rfl)) pe_str (nomark _)) (pss_one (ps_ret pe_non)) pss_nil)
      (pss_cons (ps_if (pt_cmpR op_eq (pe_ix ix_tup (pv 0) pe_int (fun _ _ => rfl)) pe_str (nomark _)) (pss_one (ps_ret (pv 1))) pss_nil)
      (pss_cons (ps_if (pt_cmpR op_isN (pv 1) pe_non (nomark _)) (pss_one (ps_ret (pe_ix ix_tup (pv 0) pe_int (fun _ _ => rfl)))) pss_nil)
      (pss_one (ps_ret (pe_op op_add (pv 1) (pe_ix ix_tup (pv 0) pe_int (fun _ _ => rfl))))))))), ?_⟩
  cases o with
  | read k =>
    exact absurd hck (by show ¬ (false = true); decide)
  | put k n =>
    refine ⟨_, rfl, a, _, _, _, rfl, rfl, SqT.of hO, atI_nat (j := 0) rfl, rfl, _, rfl, ifT (decide_eq_true rfl) ?_⟩
    exact ⟨_, rfl, a, _, _, _, rfl, rfl, SqT.of hO, atI_nat (j := 2) rfl, h1⟩
  | drop k =>
    refine ⟨_, rfl, a, _, _, _, rfl, rfl, SqT.of hO, atI_nat (j := 0) rfl, rfl, _, rfl, ifF (decide_eq_false fun q => absurd (V.str.inj q) (by decide +kernel)) ?_⟩
    refine ⟨_, rfl, a, _, _, _, rfl, rfl, SqT.of hO, atI_nat (j := 0) rfl, rfl, _, rfl, ifT (decide_eq_true rfl) ?_⟩
    exact h1
  | add k n =>
    refine ⟨_, rfl, a, _, _, _, rfl, rfl, SqT.of hO, atI_nat (j := 0) rfl, rfl, _, rfl, ifF (decide_eq_false fun q => absurd (V.str.inj q) (by decide +kernel)) ?_⟩
    refine ⟨_, rfl, a, _, _, _, rfl, rfl, SqT.of hO, atI_nat (j := 0) rfl, rfl, _, rfl, ifF (decide_eq_false fun q => absurd (V.str.inj q) (by decide +kernel)) ?_⟩
    refine ⟨_, rfl, a, _, _, _, rfl, rfl, SqT.of hO, atI_nat (j := 0) rfl, rfl, _, rfl, ifF (decide_eq_false fun q => absurd (V.str.inj q) (by decide +kernel)) ?_⟩
    cases v with
    | none => exact ⟨_, rfl, rfl, _, rfl, iteT ⟨_, rfl, a, _, _, _, rfl, rfl, SqT.of hO, atI_nat (j := 2) rfl, h1⟩⟩
    | some i => exact ⟨_, rfl, rfl, _, rfl, ifF rfl ⟨_, rfl, _, rfl, a, _, _, _, rfl, rfl, SqT.of hO, atI_nat (j := 2) rfl, _, _, rfl, rfl, h1⟩⟩
  | need k n =>
    exact absurd hck (by show ¬ (false = true); decide)
  | equal k w =>
    exact absurd hck (by show ¬ (false = true); decide)
  | copy k b =>
    refine ⟨_, rfl, a, _, _, _, rfl, rfl, SqT.of hO, atI_nat (j := 0) rfl, rfl, _, rfl, ifF (decide_eq_false fun q => absurd (V.str.inj q) (by decide +kernel)) ?_⟩
    refine ⟨_, rfl, a, _, _, _, rfl, rfl, SqT.of hO, atI_nat (j := 0) rfl, rfl, _, rfl, ifF (decide_eq_false fun q => absurd (V.str.inj q) (by decide +kernel)) ?_⟩
    refine ⟨_, rfl, a, _, _, _, rfl, rfl, SqT.of hO, atI_nat (j := 0) rfl, rfl, _, rfl, ifT (decide_eq_true rfl) ?_⟩
    exact ⟨_, rfl, h1⟩
def Op.nm : Op → Str
  | .read _ => "read" | .put _ _ => "put" | .drop _ => "drop" | .add _ _ => "add" | .need _ _ => "need" | .equal _ _ => "equal" | .copy _ _ => "copy"
theorem nm_at (o : Op) : o.vs[0]? = some (.str o.nm) := by cases o <;> rfl
theorem rdk (T : Env K mg w) (o : Op) : (∃ (k : Str) (j : Nat) (u : Value), o.rk = some k ∧ PySem.W.nsIn K T.o_READ_KEY o.nm = some (some u) ∧ RelV (.int j) u ∧ o.vs[j]? = some (.str k)) ∨ (o.rk = none ∧ PySem.W.nsIn K T.o_READ_KEY o.nm = some none) := by
  cases o with
  | read k => exact .inl ⟨k, 1, _, rfl, T.i_READ_KEY_read, T.r_READ_KEY_read, rfl⟩
  | put k n => exact .inr ⟨rfl, T.i_READ_KEY_put⟩
  | drop k => exact .inr ⟨rfl, T.i_READ_KEY_drop⟩
  | add k n => exact .inl ⟨k, 1, _, rfl, T.i_READ_KEY_add, T.r_READ_KEY_add, rfl⟩
  | need k n => exact .inl ⟨k, 1, _, rfl, T.i_READ_KEY_need, T.r_READ_KEY_need, rfl⟩
  | equal k n => exact .inl ⟨k, 1, _, rfl, T.i_READ_KEY_equal, T.r_READ_KEY_equal, rfl⟩
  | copy k n => exact .inl ⟨k, 1, _, rfl, T.i_READ_KEY_copy, T.r_READ_KEY_copy, rfl⟩
theorem chk (T : Env K mg w) (o : Op) : (∃ (k : Str) (j : Nat) (u : Value), o.ck = some k ∧ PySem.W.nsIn K T.o_CHANGED_KEY o.nm = some (some u) ∧ RelV (.int j) u ∧ o.vs[j]? = some (.str k)) ∨ (o.ck = none ∧ PySem.W.nsIn K T.o_CHANGED_KEY o.nm = some none) := by
  cases o with
  | read k => exact .inr ⟨rfl, T.i_CHANGED_KEY_read⟩
  | put k n => exact .inl ⟨k, 1, _, rfl, T.i_CHANGED_KEY_put, T.r_CHANGED_KEY_put, rfl⟩
  | drop k => exact .inl ⟨k, 1, _, rfl, T.i_CHANGED_KEY_drop, T.r_CHANGED_KEY_drop, rfl⟩
  | add k n => exact .inl ⟨k, 1, _, rfl, T.i_CHANGED_KEY_add, T.r_CHANGED_KEY_add, rfl⟩
  | need k n => exact .inr ⟨rfl, T.i_CHANGED_KEY_need⟩
  | equal k n => exact .inr ⟨rfl, T.i_CHANGED_KEY_equal⟩
  | copy k n => exact .inl ⟨n, 2, _, rfl, T.i_CHANGED_KEY_copy, T.r_CHANGED_KEY_copy, rfl⟩
structure PAt (K : PySem.W.Frag) (H : Hp) (p : Addr) (as : List Addr) (ops : List Op) : Prop where
  at_ : Sq K H p (as.map V.ref)
  len : as.length = ops.length
  each : ∀ (j : Nat) (a : Addr), as[j]? = some a → ∃ o, ops[j]? = some o ∧ OpAt H a o
structure GAt (K : PySem.W.Frag) (H : Hp) (p : Addr) (as : List Addr) (ps : Mp) : Prop where
  at_ : SqL K H p (as.map V.ref)
  len : as.length = ps.length
  each : ∀ (j : Nat) (a : Addr), as[j]? = some a → ∃ e, ps[j]? = some e ∧ H a = some (.tup [.str e.1, oV e.2])
theorem PAt.same {H H' : Hp} {p : Addr} {as : List Addr} {ops : List Op} (h : PAt K H p as ops) (s : Same H H') : PAt K H' p as ops := ⟨h.at_.same s, h.len, fun j a e => by
  obtain ⟨o, h1, h2⟩ := h.each j a e
  exact ⟨o, h1, s _ _ h2⟩⟩
theorem GAt.same {H H' : Hp} {p : Addr} {as : List Addr} {ps : Mp} (h : GAt K H p as ps) (s : Same H H') : GAt K H' p as ps := ⟨s.seq h.at_, h.len, fun j a e => by
  obtain ⟨o, h1, h2⟩ := h.each j a e
  exact ⟨o, h1, s _ _ h2⟩⟩
def mm (ps : Mp) : Mp := ps.foldl (fun M kv => mput M kv.1 kv.2) []
theorem mm_merge (ps : Mp) : mergeK [] (toK ps) = toK (mm ps) := by
  have gen : ∀ (ps M : Mp), mergeK (toK M) (toK ps) = toK (ps.foldl (fun M kv => mput M kv.1 kv.2) M) := by
    intro ps
    induction ps with
    | nil => intro M; rfl
    | cons a r ih =>
      intro M
      show mergeK (putK (toK M) (Sum.inr a.1 : Key) (oV a.2)) (toK r) = _
      rw [toK_put]
      exact ih _
  exact gen ps []
theorem mm_len (ps : Mp) : (mm ps).length ≤ ps.length := by
  have gen : ∀ (ps M : Mp), (ps.foldl (fun M kv => mput M kv.1 kv.2) M).length ≤ M.length + ps.length := by
    intro ps
    induction ps with
    | nil => intro M; exact Nat.le_refl _
    | cons a r ih =>
      intro M
      have h1 := ih (mput M a.1 a.2)
      have h2 := mput_len M a.1 a.2
      rw [List.foldl_cons, List.length_cons]
      omega
  have := gen ps []
  simpa [mm] using this
theorem paired_toK {H : Hp} : ∀ (as : List Addr) (ps : Mp), as.length = ps.length → (∀ (j : Nat) (a : Addr), as[j]? = some a → ∃ e, ps[j]? = some e ∧ H a = some (.tup [.str e.1, oV e.2])) → Paired (fun (p : Addr) (kv : Key × V) => SqT K H p [kV kv.1, kv.2]) as (toK ps)
  | [], [], _, _ => .nil
  | [], _ :: _, h, _ => by simp at h
  | _ :: _, [], h, _ => by simp at h
  | a :: as, e :: ps, h, he => by
    obtain ⟨e', h1, h2⟩ := he 0 a rfl
    have : e = e' := Option.some.inj h1
    subst this
    exact .cons (SqT.of h2) (paired_toK as ps (by simpa using h) fun j c hj => he (j + 1) c hj)
def keysOf (M : Mp) : List Str := M.map (·.1)
theorem keys_mput (M : Mp) (k : Str) (v : Option Int) : keysOf (mput M k v) = if k ∈ keysOf M then keysOf M else keysOf M ++ [k] := by
  have e : ((M.any fun kv => decide (kv.1 = k)) = true) ↔ k ∈ keysOf M := by
    rw [List.any_eq_true]
    constructor
    · rintro ⟨x, hx, h⟩
      exact List.mem_map.mpr ⟨x, hx, by simpa using h⟩
    · intro h
      obtain ⟨x, hx, h⟩ := List.mem_map.mp h
      exact ⟨x, hx, by simpa using h⟩
  unfold mput
  by_cases c : k ∈ keysOf M
  · rw [if_pos (e.mpr c), if_pos c]
    unfold keysOf
    rw [List.map_map]
    refine List.map_congr_left fun a _ => ?_
    show (if a.1 = k then (a.1, v) else a).1 = a.1
    split <;> rfl
  · rw [if_neg (fun q => c (e.mp q)), if_neg c]
    unfold keysOf
    rw [List.map_append]
    rfl
theorem nodup_mput {M : Mp} (h : (keysOf M).Nodup) (k : Str) (v : Option Int) : (keysOf (mput M k v)).Nodup := by
  rw [keys_mput]
  split
  · exact h
  · rename_i c
    exact List.nodup_append.mpr ⟨h, by simp, fun x hx y hy => by
      have : y = k := by simpa using hy
      rw [this]
      exact fun q => c (q ▸ hx)⟩
theorem mget_mem {M : Mp} {k : Str} (h : k ∈ keysOf M) : ∃ v, mget M k = some v := by
  unfold mget
  cases q : M.find? fun kv => decide (kv.1 = k) with
  | some y => exact ⟨_, rfl⟩
  | none =>
    obtain ⟨x, hx, e⟩ := List.mem_map.mp h
    have := List.find?_eq_none.mp q x hx
    exact absurd e (by simpa using this)
/-- the sorted writes -/
structure Srt (C L : Mp) : Prop where
  asc : (keysOf L).Pairwise ltS
  mem : ∀ k, k ∈ keysOf L ↔ k ∈ keysOf C
  val : ∀ e ∈ L, mget C e.1 = some e.2
theorem asc_unique : ∀ (ys zs : List Str), ys.Pairwise ltS → zs.Pairwise ltS → (∀ k, k ∈ ys ↔ k ∈ zs) → ys = zs
  | [], [], _, _, _ => rfl
  | [], z :: zs, _, _, h => absurd ((h z).mpr List.mem_cons_self) (by simp)
  | y :: ys, [], _, _, h => absurd ((h y).mp List.mem_cons_self) (by simp)
  | y :: ys, z :: zs, hy, hz, h => by
    have hy1 := List.pairwise_cons.mp hy
    have hz1 := List.pairwise_cons.mp hz
    have e : y = z := by
      rcases List.mem_cons.mp ((h y).mp List.mem_cons_self) with q | q
      · exact q
      · rcases List.mem_cons.mp ((h z).mpr List.mem_cons_self) with q2 | q2
        · exact q2.symm
        · exact absurd (ltS_trans (hz1.1 y q) (hy1.1 z q2)) (ltS_irrefl _)
    subst e
    rw [asc_unique ys zs hy1.2 hz1.2 fun k => by
      constructor
      · intro hk
        rcases List.mem_cons.mp ((h k).mp (List.mem_cons_of_mem _ hk)) with q | q
        · exact absurd (hy1.1 k hk) (q ▸ ltS_irrefl _)
        · exact q
      · intro hk
        rcases List.mem_cons.mp ((h k).mpr (List.mem_cons_of_mem _ hk)) with q | q
        · exact absurd (hz1.1 k hk) (q ▸ ltS_irrefl _)
        · exact q]
theorem srt_eq {C L L' : Mp} (h : Srt C L) (h' : Srt C L') : L = L' := by
  have hk : keysOf L = keysOf L' := asc_unique _ _ h.asc h'.asc fun k => (h.mem k).trans (h'.mem k).symm
  have hl : L.length = L'.length := by
    have := congrArg List.length hk
    simpa [keysOf] using this
  refine List.ext_getElem hl fun i h1 h2 => ?_
  have e1 : L[i].1 = L'[i].1 := by
    have : (keysOf L)[i]? = (keysOf L')[i]? := by rw [hk]
    simpa [keysOf, List.getElem?_eq_getElem h1, List.getElem?_eq_getElem h2] using this
  have v1 := h.val _ (List.getElem_mem h1)
  have v2 := h'.val _ (List.getElem_mem h2)
  rw [e1, v2] at v1
  exact Prod.ext e1 (Option.some.inj v1).symm
inductive ResAt (H : Hp) : V → Res → Prop
  | ask (p : Addr) (k : Str) (h : H p = some (.tup [.str "ask", .str k])) : ResAt H (.ref p) (.ask k)
  | quit (p : Addr) (h : H p = some (.tup [.str "give_up"])) : ResAt H (.ref p) .quit
  | done (p t : Addr) (C L : Mp) (as : List Addr) (h : H p = some (.tup [.str "done", .ref t])) (ht : H t = some (.tup (as.map V.ref))) (hl : as.length = L.length) (hb : as.length ≤ 1000) (hs : Srt C L)
      (he : ∀ (j : Nat) (a : Addr), as[j]? = some a → ∃ e, L[j]? = some e ∧ H a = some (.tup [.str e.1, oV e.2])) : ResAt H (.ref p) (.done C)

--PART /work/steering/wip/parts/adv.lean
theorem via2p {G : Prop} {R : L2.St → Hp → Prop} (A : L2.St → Hp → Prop) (k : (∀ σ H1, A σ H1 → R σ H1) → G) (fin : ∀ σ H1, A σ H1 → R σ H1) : G := k fin
theorem mem_rf {as : List Addr} {i : Nat} {x : V} (hx : (as.map V.ref)[i]? = some x) : ∃ a, as[i]? = some a ∧ x = V.ref a := by
  rw [List.getElem?_map] at hx
  cases e : as[i]? with
  | none => rw [e] at hx; cases hx
  | some u => rw [e] at hx; exact ⟨u, rfl, (Option.some.inj hx).symm⟩
theorem drop_at {α : Type} {l : List α} {i : Nat} {x : α} (h : l[i]? = some x) : l.drop i = x :: l.drop (i + 1) := by
  have hi := (List.getElem?_eq_some_iff.mp h).1
  rw [List.drop_eq_getElem_cons hi]
  rw [List.getElem?_eq_getElem hi] at h
  rw [Option.some.inj h]
theorem valV_some {M : Mp} {k : Str} : (valV (toK M) (Sum.inr k : Key)).isSome = (mget M k).isSome := by
  rw [toK_get]
  cases mget M k <;> rfl
theorem dget_at {H : Hp} {p : Addr} {M : Mp} (h : H p = some (.dK (toK M))) (k : Str) : DGet H p (.str k) ((mget M k).map oV) := .inl ⟨toK M, Sum.inr k, .inl h, rfl, (toK_get M k).symm⟩
theorem dput_at {H : Hp} {p : Addr} {M : Mp} (h : H p = some (.dK (toK M))) (hl : M.length ≤ 1000) (k : Str) (v : Option Int) : DPut H p (.str k) (oV v) (upd H p (.dK (toK (mput M k v)))) := .inl ⟨toK M, Sum.inr k, h, rfl, szl (by unfold toK; rw [List.length_map]; omega), by rw [toK_put]⟩
def srtOf (C : Mp) (ys : List Str) : Mp := ys.map fun k => (k, (mget C k).getD none)
theorem srtOf_ok {C : Mp} {ys : List Str} (hn : (keysOf C).Nodup) (hp : ys.Perm (keysOf C)) (hs : sortedS ys = true) : Srt C (srtOf C ys) := by
  have hk : keysOf (srtOf C ys) = ys := by
    unfold keysOf srtOf
    rw [List.map_map]
    exact (List.map_congr_left fun _ _ => rfl).trans (List.map_id _)
  refine ⟨?_, fun k => by rw [hk]; exact hp.mem_iff, ?_⟩
  · rw [hk]
    have hnd : ys.Nodup := hp.nodup_iff.mpr hn
    cases ys with
    | nil => exact List.Pairwise.nil
    | cons y r => exact (asc_pw y r).mp (rising_asc y r hs hnd)
  · intro e he
    obtain ⟨k, hkm, rfl⟩ := List.mem_map.mp he
    obtain ⟨v, hv⟩ := mget_mem (M := C) (hp.mem_iff.mp hkm)
    show mget C k = some ((mget C k).getD none)
    rw [hv]
    rfl
theorem toK_keys (C : Mp) : (toK C).map (·.1) = (keysOf C).map Sum.inr := by
  unfold toK keysOf
  rw [List.map_map, List.map_map]
  rfl
def sp_advance (T : Env K mg w) : Sp := fun vs H Q E => ∃ (p g : Addr) (as gs : List Addr) (ops : List Op) (ps : Mp), vs = [.ref p, .ref g] ∧ PAt K H p as ops ∧ GAt K H g gs ps ∧ ops.length ≤ 30 ∧ ps.length ≤ 30 ∧ ∀ x H', Same H H' → ResAt H' x (runP (mm ps) ops []) → Q x H'
theorem ok_advance (T : Env K mg w) : FnOk P w K mg base (L2.CX P w) 2 T.a_advance T.d_advance ["program", "got"] (sp_advance T) := by
  refine T.F_advance.okX sc_advance (fun vs H Q E h => by obtain ⟨_, _, _, _, _, _, rfl, _⟩ := h; rfl) (fun cdv A outer s H vs Q E hr h => ?_)
  obtain ⟨p, g, as, gs, ops, ps, rfl, hP, hG, hol, hpl, h1⟩ := h
  have hu64 := hu64_of hr
  have G__gives_up := ok__gives_up (P := P) (w := w) (base := base) T
  have G__new_value := ok__new_value (P := P) (w := w) (base := base) T
  refine ⟨_, (pss_cons (ps_set (i := 2) sc_advance.nd rfl (Or.inl rfl) (pe_callTy (call_dictP rfl) (by rfl) T.z_dict (by decide +kernel) (pa_cons (pv 1) pa_nil)))
      (pss_cons (ps_set (i := 3) sc_advance.nd rfl (Or.inr rfl) pe_dnewK)
      (pss_cons (ps_for (passes_of rfl) rfl (pi_seq (pv 0)) (pg_name (i := 4) sc_advance.nd rfl (Or.inl rfl)) (pss_cons (ps_set (i := 5) sc_advance.nd rfl (Or.inl rfl) (pe_ix ix_tup (pv 4) pe_int (fun _ _ => rfl)))
      (pss_cons (ps_set (i := 6) sc_advance.nd rfl (Or.inl rfl) pe_non)
      (pss_cons (ps_if (pt_cmpR (op_in_kd T.D_READ_KEY) (pv 5) (pe_glob (v := .ref T.o_READ_KEY) rfl T.k_READ_KEY rfl) rfl) (pss_cons (ps_set (i := 7) sc_advance.nd rfl (Or.inl rfl) (pe_ix ix_tup (pv 4) (pe_ix ix_kdict (pe_glob (v := .ref T.o_READ_KEY) rfl T.k_READ_KEY rfl) (pv 5) (fun _ _ => rfl)) (fun _ _ => rfl)))
      (pss_cons (ps_if (pt_cmp (pc_dnotin (hu_of hr) (pv 7) (pv 2)) rfl) (pss_one (ps_ret (pe_tup (pa_cons pe_str (pa_cons (pv 7) pa_nil))))) pss_nil)
      (pss_one (ps_set (i := 6) sc_advance.nd rfl (Or.inl rfl) (pe_dget (hu_of hr) (pv 2) (pv 7) (fun _ _ => rfl)))))) pss_nil)
      (pss_cons (ps_if (pt_val (pe_call G__gives_up (hr.mono (by decide)) rfl T.g__gives_up T.F__gives_up.kp T.b__gives_up .nil passL (pa_cons (pv 4) (pa_cons (pv 6) pa_nil)))) (pss_one (ps_ret (pe_tup (pa_cons pe_str pa_nil)))) pss_nil)
      (pss_one (ps_if (pt_cmpR (op_in_kd T.D_CHANGED_KEY) (pv 5) (pe_glob (v := .ref T.o_CHANGED_KEY) rfl T.k_CHANGED_KEY rfl) rfl) (pss_cons (ps_set (i := 7) sc_advance.nd rfl (Or.inl rfl) (pe_ix ix_tup (pv 4) (pe_ix ix_kdict (pe_glob (v := .ref T.o_CHANGED_KEY) rfl T.k_CHANGED_KEY rfl) (pv 5) (fun _ _ => rfl)) (fun _ _ => rfl)))
      (pss_cons (ps_dput (hu_of hr) (pv 3) (pv 7) (pe_call G__new_value (hr.mono (by decide)) rfl T.g__new_value T.F__new_value.kp T.b__new_value .nil passL (pa_cons (pv 4) (pa_cons (pv 6) pa_nil))) rfl)
      (pss_one (ps_dput (hu_of hr) (pv 2) (pv 7) (pe_dget (hu_of hr) (pv 3) (pv 7) (fun _ _ => rfl)) rfl)))) pss_nil)))))))
      (pss_one (ps_ret (pe_tup (pa_cons pe_str (pa_cons (pe_callTy call_tuple_of (by rfl) T.z_tuple (by decide +kernel) (pa_cons (pe_lc (own := [("key", 7)]) (by rfl) sc_advance.nd (pi_list (pe_callB (call_sortedD rfl) (by rfl) T.z_sorted (by decide +kernel) (pa_cons (pv 3) pa_nil))) (blkOk_by (own := [("key", 7)]) (N := ["program", "got", "known", "changed", "operation", "name", "value", "key"]) (sc := defScope s_advance) (by decide +kernel)) (fun _ _ _ _ _ => (pg_name (i := 7) sc_advance.nd rfl (Or.inl rfl))) (fun _ _ _ _ _ => pts_nil) (fun _ _ _ _ _ => (pe_tup (pa_cons (pv 7) (pa_cons (pe_dget (hu_of hr) (pv 3) (pv 7) (fun _ _ => rfl)) pa_nil))))) pa_nil)) pa_nil)))))))), ?_⟩
  refine ⟨_, rfl, g, gs, toK ps, rfl, hG.at_, paired_toK gs ps hG.len hG.each, fun pk npk => ?_⟩
  rw [mm_merge]
  have hml := mm_len ps
  generalize mm ps = K0 at h1 hml
  have s1 := same_new (o := .dK (toK K0)) npk
  refine fun pc npc => ?_
  have npc0 : H pc = none := s1.free npc
  have hkc : pk ≠ pc := ne_of_none upd_same npc
  have s2 := s1.trans (same_new (o := .dK []) npc)
  have hpk : upd (upd H pk (.dK (toK K0))) pc (.dK []) pk = some (.dK (toK K0)) := by rw [upd_ne hkc, upd_same]
  have hpc : upd (upd H pk (.dK (toK K0))) pc (.dK []) pc = some (.dK (toK [])) := upd_same
  show tSeq _ _ _ _ (upd (upd H pk (.dK (toK K0))) pc (.dK []))
  generalize upd (upd H pk (.dK (toK K0))) pc (.dK []) = H2 at s2 hpk hpc
  refine for_seq (a := p) (xs := as.map V.ref) (fun i σ H' => ∃ M1 C v4 v5 v6 v7, σ = [some (.ref p), some (.ref g), some (.ref pk), some (.ref pc), v4, v5, v6, v7] ∧ Same H H' ∧ H' pk = some (.dK (toK M1)) ∧ H' pc = some (.dK (toK C)) ∧ (∀ k, mget M1 k = val K0 C k) ∧ M1.length ≤ 30 + i ∧ C.length ≤ i ∧ (keysOf C).Nodup ∧ runP K0 ops [] = runP K0 (ops.drop i) C) rfl hP.at_ s2 ⟨K0, [], none, none, none, none, rfl, s2, hpk, hpc, fun k => rfl, by omega, Nat.le_refl _, List.nodup_nil, rfl⟩ (fun i σ H' _ ⟨_, _, _, _, _, _, _, h, _⟩ => h) ?_ ?_
  · rintro i x σ H' hx ⟨M1, C, v4, v5, v6, v7, rfl, sA, hk, hc, hval, hMl, hCl, hCn, hrun⟩
    obtain ⟨a, ha, rfl⟩ := mem_rf hx
    obtain ⟨o, ho, hO⟩ := (hP.same sA).each i a ha
    have hi : i < ops.length := (List.getElem?_eq_some_iff.mp ho).1
    rw [drop_at ho] at hrun
    refine ⟨_, rfl, a, _, _, .str o.nm, rfl, rfl, SqT.of hO, atI_nat (j := 0) (nm_at o), ?_⟩
    apply via2p (fun σ HX => ∃ (v : Option Int) (v7' : Option V), σ = [some (.ref p), some (.ref g), some (.ref pk), some (.ref pc), some (.ref a), some (.str o.nm), some (oV v), v7'] ∧ HX = H' ∧ (o.gu v = true → runP K0 ops [] = .quit) ∧ (¬ o.gu v = true → runP K0 ops [] = runP K0 (ops.drop (i + 1)) (updC C o v)))
    · intro fin
      rcases rdk T o with ⟨k, j, u, e1, e2, e3, e4⟩ | ⟨e1, e2⟩
      · refine ⟨_, rfl, _, _, rfl, rfl, e2, _, rfl, ifT rfl ?_⟩
        refine ⟨_, rfl, _, rfl, _, _, .int j, rfl, rfl, ⟨_, _, _, T.D_READ_KEY.at_, T.D_READ_KEY.lit, e2, e3⟩, a, _, _, .str k, rfl, rfl, SqT.of hO, atI_nat e4, ?_⟩
        have hv := hval k
        refine ⟨_, rfl, _, rfl, pk, _, rfl, dget_at hk k, _, rfl, ?_⟩
        cases q : mget M1 k with
        | none =>
          refine ifT rfl ⟨_, rfl, (by show 2 ≤ sizeLine; decide), fun z nz => ?_⟩
          refine h1 _ _ (sA.trans (same_new nz)) ?_
          rw [hrun]
          show ResAt _ _ (match o.rk with | some k => _ | none => _)
          rw [e1]
          show ResAt _ _ (match val K0 C k with | none => _ | some v => _)
          rw [← hv, q]
          exact .ask z k upd_same
        | some v =>
          refine ifF rfl ⟨_, rfl, _, rfl, pk, oV v, rfl, (by have := dget_at hk k; rw [q] at this; exact this), ?_⟩
          refine fin _ _ ⟨v, _, rfl, rfl, ?_, ?_⟩
          · intro hgu
            rw [hrun]
            show (match o.rk with | some k => _ | none => _) = _
            rw [e1]
            show (match val K0 C k with | none => _ | some v => _) = _
            rw [← hv, q]
            exact if_pos hgu
          · intro hgu
            rw [hrun]
            show (match o.rk with | some k => _ | none => _) = _
            rw [e1]
            show (match val K0 C k with | none => _ | some v => _) = _
            rw [← hv, q]
            exact if_neg hgu
      · refine ⟨_, rfl, _, _, rfl, rfl, e2, _, rfl, ifF rfl ?_⟩
        refine fin _ _ ⟨none, _, rfl, rfl, ?_, ?_⟩
        · intro hgu
          rw [hrun]
          show (match o.rk with | some k => _ | none => _) = _
          rw [e1]
          exact if_pos hgu
        · intro hgu
          rw [hrun]
          show (match o.rk with | some k => _ | none => _) = _
          rw [e1]
          exact if_neg hgu
    rintro σ HX ⟨v, v7', rfl, eX, f1, f2⟩
    rw [eX]
    clear eX
    refine ⟨_, rfl, _, rfl, a, o, v, rfl, hO, _, rfl, ?_⟩
    cases hgu : o.gu v with
    | true =>
      refine ifT rfl ⟨(by show 1 ≤ sizeLine; decide), fun z nz => ?_⟩
      refine h1 _ _ (sA.trans (same_new nz)) ?_
      rw [f1 hgu]
      exact .quit z upd_same
    | false =>
      have hrun2 := f2 (by rw [hgu]; decide)
      refine ifF rfl ?_
      rcases chk T o with ⟨k, j, u, e1, e2, e3, e4⟩ | ⟨e1, e2⟩
      · refine ⟨_, rfl, _, _, rfl, rfl, e2, _, rfl, ifT rfl ?_⟩
        refine ⟨_, rfl, _, rfl, _, _, .int j, rfl, rfl, ⟨_, _, _, T.D_CHANGED_KEY.at_, T.D_CHANGED_KEY.lit, e2, e3⟩, a, _, _, .str k, rfl, rfl, SqT.of hO, atI_nat e4, ?_⟩
        have eu : updC C o v = mput C k (o.nv v) := by unfold updC; rw [e1]
        have hc2 : upd H' pc (.dK (toK (mput C k (o.nv v)))) pc = some (.dK (toK (mput C k (o.nv v)))) := upd_same
        have hk2 : upd H' pc (.dK (toK (mput C k (o.nv v)))) pk = some (.dK (toK M1)) := by rw [upd_ne hkc]; exact hk
        refine ⟨_, rfl, _, rfl, a, o, v, rfl, hO, (by rw [e1]; rfl), _, rfl, _, rfl, pc, _, rfl, dput_at hc (by omega) k _, ?_⟩
        refine ⟨_, rfl, _, rfl, pc, oV (o.nv v), rfl, (by have := dget_at hc2 k; rw [mget_mput, if_pos rfl] at this; exact this), _, rfl, _, rfl, pk, _, rfl, dput_at hk2 (by omega) k _, ?_⟩
        have hCl2 := mput_len C k (o.nv v)
        have hMl2 := mput_len M1 k (o.nv v)
        refine ⟨mput M1 k (o.nv v), mput C k (o.nv v), _, _, _, _, rfl, same_mut (same_mut sA npc0) npk, upd_same, by rw [upd_ne (Ne.symm hkc)]; exact hc2, fun k' => ?_, by omega, by omega, nodup_mput hCn _ _, by rw [hrun2, eu]⟩
        rw [mget_mput]
        unfold val
        rw [mget_mput]
        by_cases c : k' = k
        · rw [if_pos c, if_pos c]
        · rw [if_neg c, if_neg c]
          exact hval k'
      · refine ⟨_, rfl, _, _, rfl, rfl, e2, _, rfl, ifF rfl ?_⟩
        have eu : updC C o v = C := by unfold updC; rw [e1]
        exact ⟨M1, C, _, _, _, _, rfl, sA, hk, hc, hval, by omega, by omega, hCn, by rw [hrun2, eu]⟩
  · rintro σ H' ⟨M1, C, v4, v5, v6, v7, rfl, sA, hk, hc, hval, hMl, hCl, hCn, hrun⟩
    rw [List.length_map, hP.len] at hCl hrun
    rw [List.drop_length] at hrun
    have hrun : runP K0 ops [] = .done C := hrun
    rw [hrun] at h1
    refine ⟨_, rfl, pc, toK C, keysOf C, rfl, .inl hc, toK_keys C, (by unfold keysOf; rw [List.length_map]; omega), fun ys q hperm hsort nq => ?_⟩
    have hsr := srtOf_ok hCn hperm hsort
    have hyl : ys.length = C.length := by rw [hperm.length_eq]; unfold keysOf; rw [List.length_map]
    have s4 := sA.trans (same_new (o := .lst (ys.map V.str)) nq)
    have hq : upd H' q (.lst (ys.map V.str)) q = some (.lst (ys.map V.str)) := upd_same
    have hc4 : upd H' q (.lst (ys.map V.str)) pc = some (.dK (toK C)) := same_new nq _ _ hc
    refine ⟨q, rfl, ⟨_, SqL.of hq⟩, ?_⟩
    generalize upd H' q (.lst (ys.map V.str)) = H4 at s4 hq hc4
    refine fun D hD => lc_list (K := K) (a := q) (xs := ys.map V.str) (fun i HX => Same H4 HX ∧ ∃ as : List Addr, HX D = some (.lst (as.map V.ref)) ∧ as.length = i ∧ ∀ (j : Nat) (b : Addr), as[j]? = some b → b ≠ D ∧ ∃ e, (srtOf C ys)[j]? = some e ∧ HX b = some (.tup [.str e.1, oV e.2])) ⟨same_new hD, [], upd_same, rfl, fun j b hj => by simp at hj⟩ (fun i HX _ h => SqL.of (h.1 _ _ hq)) ?_ ?_
    · rintro i x HX hx ⟨sB, as2, hDD, hal, hae⟩
      obtain ⟨k, hki, rfl⟩ := mem_str hx
      have hi : i < ys.length := (List.getElem?_eq_some_iff.mp hki).1
      obtain ⟨v, hv⟩ := mget_mem (M := C) (hperm.mem_iff.mp (List.mem_of_getElem? hki))
      refine ⟨rfl, yes_if ?_⟩
      refine ⟨_, rfl, _, rfl, _, rfl, pc, oV v, rfl, (by have := dget_at (sB _ _ hc4) k; rw [hv] at this; exact this), (by show 2 ≤ sizeLine; decide), fun z nz => ?_⟩
      have nzD : z ≠ D := (ne_of_none hDD nz).symm
      refine ⟨_, same_new nz _ _ hDD, szl (by rw [List.length_map]; omega), same_mut (sB.trans (same_new nz)) hD, as2 ++ [z], by rw [upd_same, List.map_append]; rfl, by rw [List.length_append, hal]; rfl, ?_⟩
      intro j b hj
      by_cases c : j < as2.length
      · rw [List.getElem?_append_left c] at hj
        obtain ⟨g1, e, g2, g3⟩ := hae j b hj
        exact ⟨g1, e, g2, by rw [upd_ne g1]; exact same_new nz _ _ g3⟩
      · have hj2 : j = as2.length := by
          have := (List.getElem?_eq_some_iff.mp hj).1
          rw [List.length_append] at this
          have : j < as2.length + 1 := this
          omega
        subst hj2
        rw [List.getElem?_append_right (Nat.le_refl _), Nat.sub_self] at hj
        have eb : z = b := Option.some.inj hj
        subst eb
        refine ⟨nzD, (k, v), ?_, by rw [upd_ne nzD, upd_same]⟩
        unfold srtOf
        rw [hal, List.getElem?_map, hki]
        show some (k, (mget C k).getD none) = _
        rw [hv]
        rfl
    · rintro HX ⟨sB, as2, hDD, hal, hae⟩
      refine ⟨D, _, rfl, .inl ⟨SqL.of hDD, fun t nt => ⟨(by show 2 ≤ sizeLine; decide), fun z nz => ?_⟩⟩⟩
      have st := same_new (o := .tup (as2.map V.ref)) nt
      have sz := same_new (o := .tup [.str "done", .ref t]) nz
      refine h1 _ _ (s4.trans (sB.trans (st.trans sz))) (.done z t C (srtOf C ys) as2 upd_same (sz _ _ upd_same) ?_ (by rw [hal, List.length_map]; omega) hsr fun j b hj => ?_)
      · rw [hal]
        unfold srtOf
        rw [List.length_map, List.length_map]
      · obtain ⟨g1, e, g2, g3⟩ := hae j b hj
        exact ⟨e, g2, sz _ _ (st _ _ g3)⟩

--PART /work/steering/wip/parts/lawstep.lean
def sp__law_reads (T : Env K mg w) : Sp := fun vs H Q E => ∃ (a : Addr) (o : Op), vs = [.ref a] ∧ OpAt H a o ∧ Q (.bl o.rk.isSome) H
theorem ok__law_reads (T : Env K mg w) : FnOk P w K mg base (L2.CX P w) 1 T.a__law_reads T.d__law_reads ["part"] (sp__law_reads T) := by
  refine T.F__law_reads.okX sc__law_reads (fun vs H Q E h => by obtain ⟨_, _, rfl, _⟩ := h; rfl) (fun cdv A outer s H vs Q E hr h => ?_)
  obtain ⟨a, o, rfl, hO, h1⟩ := h
  refine ⟨_, (pss_one (ps_ret (pe_and (pe_cmpR op_ne (pe_ix ix_tup (pv 0) pe_int (fun _ _ => rfl)) pe_str (nomark _)) (pe_one (pe_cmpR op_ne (pe_ix ix_tup (pv 0) pe_int (fun _ _ => rfl)) pe_str (nomark _)))))), ?_⟩
  cases o with
  | read k =>
    refine ⟨_, rfl, a, _, _, _, rfl, rfl, SqT.of hO, atI_nat (j := 0) rfl, rfl, _, rfl, ifT (by rw [decide_eq_false fun q => absurd (V.str.inj q) (by decide +kernel)]; rfl) ⟨_, rfl, a, _, _, _, rfl, rfl, SqT.of hO, atI_nat (j := 0) rfl, rfl, ?_⟩⟩
    rw [decide_eq_false fun q => absurd (V.str.inj q) (by decide +kernel)]
    exact h1
  | put k n =>
    exact ⟨_, rfl, a, _, _, _, rfl, rfl, SqT.of hO, atI_nat (j := 0) rfl, rfl, _, rfl, ifF (by rw [decide_eq_true rfl]; rfl) h1⟩
  | drop k =>
    refine ⟨_, rfl, a, _, _, _, rfl, rfl, SqT.of hO, atI_nat (j := 0) rfl, rfl, _, rfl, ifT (by rw [decide_eq_false fun q => absurd (V.str.inj q) (by decide +kernel)]; rfl) ⟨_, rfl, a, _, _, _, rfl, rfl, SqT.of hO, atI_nat (j := 0) rfl, rfl, ?_⟩⟩
    rw [decide_eq_true rfl]
    exact h1
  | add k n =>
    refine ⟨_, rfl, a, _, _, _, rfl, rfl, SqT.of hO, atI_nat (j := 0) rfl, rfl, _, rfl, ifT (by rw [decide_eq_false fun q => absurd (V.str.inj q) (by decide +kernel)]; rfl) ⟨_, rfl, a, _, _, _, rfl, rfl, SqT.of hO, atI_nat (j := 0) rfl, rfl, ?_⟩⟩
    rw [decide_eq_false fun q => absurd (V.str.inj q) (by decide +kernel)]
    exact h1
  | need k n =>
    refine ⟨_, rfl, a, _, _, _, rfl, rfl, SqT.of hO, atI_nat (j := 0) rfl, rfl, _, rfl, ifT (by rw [decide_eq_false fun q => absurd (V.str.inj q) (by decide +kernel)]; rfl) ⟨_, rfl, a, _, _, _, rfl, rfl, SqT.of hO, atI_nat (j := 0) rfl, rfl, ?_⟩⟩
    rw [decide_eq_false fun q => absurd (V.str.inj q) (by decide +kernel)]
    exact h1
  | equal k w =>
    refine ⟨_, rfl, a, _, _, _, rfl, rfl, SqT.of hO, atI_nat (j := 0) rfl, rfl, _, rfl, ifT (by rw [decide_eq_false fun q => absurd (V.str.inj q) (by decide +kernel)]; rfl) ⟨_, rfl, a, _, _, _, rfl, rfl, SqT.of hO, atI_nat (j := 0) rfl, rfl, ?_⟩⟩
    rw [decide_eq_false fun q => absurd (V.str.inj q) (by decide +kernel)]
    exact h1
  | copy k b =>
    refine ⟨_, rfl, a, _, _, _, rfl, rfl, SqT.of hO, atI_nat (j := 0) rfl, rfl, _, rfl, ifT (by rw [decide_eq_false fun q => absurd (V.str.inj q) (by decide +kernel)]; rfl) ⟨_, rfl, a, _, _, _, rfl, rfl, SqT.of hO, atI_nat (j := 0) rfl, rfl, ?_⟩⟩
    rw [decide_eq_false fun q => absurd (V.str.inj q) (by decide +kernel)]
    exact h1
def sV : Option Str → V
  | none => .non
  | some k => .str k
def sp__law_changes_key (T : Env K mg w) : Sp := fun vs H Q E => ∃ (a : Addr) (o : Op), vs = [.ref a] ∧ OpAt H a o ∧ Q (sV o.ck) H
theorem ok__law_changes_key (T : Env K mg w) : FnOk P w K mg base (L2.CX P w) 1 T.a__law_changes_key T.d__law_changes_key ["part"] (sp__law_changes_key T) := by
  refine T.F__law_changes_key.okX sc__law_changes_key (fun vs H Q E h => by obtain ⟨_, _, rfl, _⟩ := h; rfl) (fun cdv A outer s H vs Q E hr h => ?_)
  obtain ⟨a, o, rfl, hO, h1⟩ := h
  refine ⟨_, (pss_cons (ps_if (pt_cmpR op_eq (pe_ix ix_tup (pv 0) pe_int (fun _ _ => rfl)) pe_str (nomark _)) (pss_one (ps_ret (pe_ix ix_tup (pv 0) pe_int (fun _ _ => rfl)))) pss_nil)
      (pss_cons (ps_if (PW.pt (pw_or (pt_cmpR op_eq (pe_ix ix_tup (pv 0) pe_int (fun _ _ => rfl)) pe_str (nomark _)) (pw_or (pt_cmpR op_eq (pe_ix ix_tup (pv 0) pe_int (fun _ _ => rfl)) pe_str (nomark _)) (pw_or1 (pt_cmpR op_eq (pe_ix ix_tup (pv 0) pe_int (fun _ _ => rfl)) pe_str (nomark _)))))) (pss_one (ps_ret (pe_ix ix_tup (pv 0) pe_int (fun _ _ => rfl)))) pss_nil)
      (pss_one (ps_ret pe_non)))), ?_⟩
  cases o with
  | read k =>
    refine ⟨_, rfl, a, _, _, _, rfl, rfl, SqT.of hO, atI_nat (j := 0) rfl, rfl, _, rfl, ifF (decide_eq_false fun q => absurd (V.str.inj q) (by decide +kernel)) ?_⟩
    refine ⟨_, rfl, a, _, _, _, rfl, rfl, SqT.of hO, atI_nat (j := 0) rfl, rfl, _, rfl, ifF (decide_eq_false fun q => absurd (V.str.inj q) (by decide +kernel)) ?_⟩
    refine ⟨_, rfl, a, _, _, _, rfl, rfl, SqT.of hO, atI_nat (j := 0) rfl, rfl, _, rfl, ifF (decide_eq_false fun q => absurd (V.str.inj q) (by decide +kernel)) ?_⟩
    refine ⟨_, rfl, a, _, _, _, rfl, rfl, SqT.of hO, atI_nat (j := 0) rfl, rfl, _, rfl, ifF (decide_eq_false fun q => absurd (V.str.inj q) (by decide +kernel)) ?_⟩
    exact h1
  | put k n =>
    refine ⟨_, rfl, a, _, _, _, rfl, rfl, SqT.of hO, atI_nat (j := 0) rfl, rfl, _, rfl, ifF (decide_eq_false fun q => absurd (V.str.inj q) (by decide +kernel)) ?_⟩
    exact ⟨_, rfl, a, _, _, _, rfl, rfl, SqT.of hO, atI_nat (j := 0) rfl, rfl, _, rfl, iteT ⟨_, rfl, a, _, _, _, rfl, rfl, SqT.of hO, atI_nat (j := 1) rfl, h1⟩⟩
  | drop k =>
    refine ⟨_, rfl, a, _, _, _, rfl, rfl, SqT.of hO, atI_nat (j := 0) rfl, rfl, _, rfl, ifF (decide_eq_false fun q => absurd (V.str.inj q) (by decide +kernel)) ?_⟩
    refine ⟨_, rfl, a, _, _, _, rfl, rfl, SqT.of hO, atI_nat (j := 0) rfl, rfl, _, rfl, ifF (decide_eq_false fun q => absurd (V.str.inj q) (by decide +kernel)) ?_⟩
    exact ⟨_, rfl, a, _, _, _, rfl, rfl, SqT.of hO, atI_nat (j := 0) rfl, rfl, _, rfl, iteT ⟨_, rfl, a, _, _, _, rfl, rfl, SqT.of hO, atI_nat (j := 1) rfl, h1⟩⟩
  | add k n =>
    refine ⟨_, rfl, a, _, _, _, rfl, rfl, SqT.of hO, atI_nat (j := 0) rfl, rfl, _, rfl, ifF (decide_eq_false fun q => absurd (V.str.inj q) (by decide +kernel)) ?_⟩
    refine ⟨_, rfl, a, _, _, _, rfl, rfl, SqT.of hO, atI_nat (j := 0) rfl, rfl, _, rfl, ifF (decide_eq_false fun q => absurd (V.str.inj q) (by decide +kernel)) ?_⟩
    refine ⟨_, rfl, a, _, _, _, rfl, rfl, SqT.of hO, atI_nat (j := 0) rfl, rfl, _, rfl, ifF (decide_eq_false fun q => absurd (V.str.inj q) (by decide +kernel)) ?_⟩
    exact ⟨_, rfl, a, _, _, _, rfl, rfl, SqT.of hO, atI_nat (j := 0) rfl, rfl, _, rfl, ifT (decide_eq_true rfl) ⟨_, rfl, a, _, _, _, rfl, rfl, SqT.of hO, atI_nat (j := 1) rfl, h1⟩⟩
  | need k n =>
    refine ⟨_, rfl, a, _, _, _, rfl, rfl, SqT.of hO, atI_nat (j := 0) rfl, rfl, _, rfl, ifF (decide_eq_false fun q => absurd (V.str.inj q) (by decide +kernel)) ?_⟩
    refine ⟨_, rfl, a, _, _, _, rfl, rfl, SqT.of hO, atI_nat (j := 0) rfl, rfl, _, rfl, ifF (decide_eq_false fun q => absurd (V.str.inj q) (by decide +kernel)) ?_⟩
    refine ⟨_, rfl, a, _, _, _, rfl, rfl, SqT.of hO, atI_nat (j := 0) rfl, rfl, _, rfl, ifF (decide_eq_false fun q => absurd (V.str.inj q) (by decide +kernel)) ?_⟩
    refine ⟨_, rfl, a, _, _, _, rfl, rfl, SqT.of hO, atI_nat (j := 0) rfl, rfl, _, rfl, ifF (decide_eq_false fun q => absurd (V.str.inj q) (by decide +kernel)) ?_⟩
    exact h1
  | equal k w =>
    refine ⟨_, rfl, a, _, _, _, rfl, rfl, SqT.of hO, atI_nat (j := 0) rfl, rfl, _, rfl, ifF (decide_eq_false fun q => absurd (V.str.inj q) (by decide +kernel)) ?_⟩
    refine ⟨_, rfl, a, _, _, _, rfl, rfl, SqT.of hO, atI_nat (j := 0) rfl, rfl, _, rfl, ifF (decide_eq_false fun q => absurd (V.str.inj q) (by decide +kernel)) ?_⟩
    refine ⟨_, rfl, a, _, _, _, rfl, rfl, SqT.of hO, atI_nat (j := 0) rfl, rfl, _, rfl, ifF (decide_eq_false fun q => absurd (V.str.inj q) (by decide +kernel)) ?_⟩
    refine ⟨_, rfl, a, _, _, _, rfl, rfl, SqT.of hO, atI_nat (j := 0) rfl, rfl, _, rfl, ifF (decide_eq_false fun q => absurd (V.str.inj q) (by decide +kernel)) ?_⟩
    exact h1
  | copy k b =>
    exact ⟨_, rfl, a, _, _, _, rfl, rfl, SqT.of hO, atI_nat (j := 0) rfl, rfl, _, rfl, ifT (decide_eq_true rfl) ⟨_, rfl, a, _, _, _, rfl, rfl, SqT.of hO, atI_nat (j := 2) rfl, h1⟩⟩
def sp__law_fails (T : Env K mg w) : Sp := fun vs H Q E => ∃ (a : Addr) (o : Op) (v : Option Int), vs = [.ref a, oV v] ∧ OpAt H a o ∧ Q (.bl (o.gu v)) H
theorem ok__law_fails (T : Env K mg w) : FnOk P w K mg base (L2.CX P w) 1 T.a__law_fails T.d__law_fails ["part", "current"] (sp__law_fails T) := by
  refine T.F__law_fails.okX sc__law_fails (fun vs H Q E h => by obtain ⟨_, _, _, rfl, _⟩ := h; rfl) (fun cdv A outer s H vs Q E hr h => ?_)
  obtain ⟨a, o, v, rfl, hO, h1⟩ := h
  refine ⟨_, (pss_cons (ps_if (pt_cmpR op_eq (pe_ix ix_tup (pv 0) pe_int (fun _ _ => rfl)) pe_str (nomark _)) (pss_one (ps_ret (pe_or (pe_cmpR op_isN (pv 1) pe_non (nomark _)) (pe_one (pe_cmpR op_lt (pv 1) (pe_ix ix_tup (pv 0) pe_int (fun _ _ => rfl)) (nomark _)))))) pss_nil)
      (pss_one (ps_ret (pe_and (pe_cmpR op_eq (pe_ix ix_tup (pv 0) pe_int (fun _ _ => rfl)) pe_str (nomark _)) (pe_one (pe_cmpR op_ne (pv 1) (pe_ix ix_tup (pv 0) pe_int (fun _ _ => rfl)) (nomark _))))))), ?_⟩
  cases o with
  | read k =>
    refine ⟨_, rfl, a, _, _, _, rfl, rfl, SqT.of hO, atI_nat (j := 0) rfl, rfl, _, rfl, ifF (decide_eq_false fun q => absurd (V.str.inj q) (by decide +kernel)) ?_⟩
    exact ⟨_, rfl, a, _, _, _, rfl, rfl, SqT.of hO, atI_nat (j := 0) rfl, rfl, _, rfl, ifF (decide_eq_false fun q => absurd (V.str.inj q) (by decide +kernel)) (by cases v <;> exact h1)⟩
  | put k n =>
    refine ⟨_, rfl, a, _, _, _, rfl, rfl, SqT.of hO, atI_nat (j := 0) rfl, rfl, _, rfl, ifF (decide_eq_false fun q => absurd (V.str.inj q) (by decide +kernel)) ?_⟩
    exact ⟨_, rfl, a, _, _, _, rfl, rfl, SqT.of hO, atI_nat (j := 0) rfl, rfl, _, rfl, ifF (decide_eq_false fun q => absurd (V.str.inj q) (by decide +kernel)) (by cases v <;> exact h1)⟩
  | drop k =>
    refine ⟨_, rfl, a, _, _, _, rfl, rfl, SqT.of hO, atI_nat (j := 0) rfl, rfl, _, rfl, ifF (decide_eq_false fun q => absurd (V.str.inj q) (by decide +kernel)) ?_⟩
    exact ⟨_, rfl, a, _, _, _, rfl, rfl, SqT.of hO, atI_nat (j := 0) rfl, rfl, _, rfl, ifF (decide_eq_false fun q => absurd (V.str.inj q) (by decide +kernel)) (by cases v <;> exact h1)⟩
  | add k n =>
    refine ⟨_, rfl, a, _, _, _, rfl, rfl, SqT.of hO, atI_nat (j := 0) rfl, rfl, _, rfl, ifF (decide_eq_false fun q => absurd (V.str.inj q) (by decide +kernel)) ?_⟩
    exact ⟨_, rfl, a, _, _, _, rfl, rfl, SqT.of hO, atI_nat (j := 0) rfl, rfl, _, rfl, ifF (decide_eq_false fun q => absurd (V.str.inj q) (by decide +kernel)) (by cases v <;> exact h1)⟩
  | need k n =>
    refine ⟨_, rfl, a, _, _, _, rfl, rfl, SqT.of hO, atI_nat (j := 0) rfl, rfl, _, rfl, ifT (decide_eq_true rfl) ?_⟩
    cases v with
    | none => exact ⟨_, rfl, rfl, _, rfl, iteT h1⟩
    | some i => exact ⟨_, rfl, rfl, _, rfl, ifF rfl ⟨_, rfl, _, rfl, a, _, _, _, rfl, rfl, SqT.of hO, atI_nat (j := 2) rfl, _, _, rfl, rfl, h1⟩⟩
  | equal k w =>
    refine ⟨_, rfl, a, _, _, _, rfl, rfl, SqT.of hO, atI_nat (j := 0) rfl, rfl, _, rfl, ifF (decide_eq_false fun q => absurd (V.str.inj q) (by decide +kernel)) ?_⟩
    refine ⟨_, rfl, a, _, _, _, rfl, rfl, SqT.of hO, atI_nat (j := 0) rfl, rfl, _, rfl, ifT (decide_eq_true rfl) ?_⟩
    refine ⟨_, rfl, _, rfl, a, _, _, _, rfl, rfl, SqT.of hO, atI_nat (j := 2) rfl, ?_, ?_⟩
    · cases v <;> cases w <;> rfl
    · have e : (!decide (oV v = oV w)) = Op.gu (.equal k w) v := by
        show _ = decide (v ≠ w)
        by_cases c : v = w
        · subst c; simp
        · have c2 : ¬ oV v = oV w := fun q => c (by cases v <;> cases w <;> simp_all [oV])
          rw [decide_eq_false c2, decide_eq_true c]
          rfl
      rw [← e] at h1
      exact h1
  | copy k b =>
    refine ⟨_, rfl, a, _, _, _, rfl, rfl, SqT.of hO, atI_nat (j := 0) rfl, rfl, _, rfl, ifF (decide_eq_false fun q => absurd (V.str.inj q) (by decide +kernel)) ?_⟩
    exact ⟨_, rfl, a, _, _, _, rfl, rfl, SqT.of hO, atI_nat (j := 0) rfl, rfl, _, rfl, ifF (decide_eq_false fun q => absurd (V.str.inj q) (by decide +kernel)) (by cases v <;> exact h1)⟩
def sp__law_becomes (T : Env K mg w) : Sp := fun vs H Q E => ∃ (a : Addr) (o : Op) (v : Option Int), vs = [.ref a, oV v] ∧ OpAt H a o ∧ o.ck.isSome = true ∧ ∀ H', Same H H' → Q (oV (o.nv v)) H'
theorem ok__law_becomes (T : Env K mg w) : FnOk P w K mg base (L2.CX P w) 1 T.a__law_becomes T.d__law_becomes ["part", "current"] (sp__law_becomes T) := by
  refine T.F__law_becomes.okX sc__law_becomes (fun vs H Q E h => by obtain ⟨_, _, _, rfl, _⟩ := h; rfl) (fun cdv A outer s H vs Q E hr h => ?_)
  obtain ⟨a, o, v, rfl, hO, hck, h1⟩ := h
  refine ⟨_, (pss_cons (ps_if (pt_cmpR op_eq (pe_ix ix_tup (pv 0) pe_int (fun _ _ => rfl)) pe_str (nomark _)) (pss_one (ps_ret (pe_ix ix_tup (pv 0) pe_int (fun _ _ => rfl)))) pss_nil)
      (pss_cons (ps_if (pt_cmpR op_eq (pe_ix ix_tup (pv 0) pe_int (fun _ _ => rfl)) pe_str (nomark _)) (pss_one (ps_ret (pv 1))) pss_nil)
      (pss_cons (ps_if (pt_cmpR op_eq (pe_ix ix_tup (pv 0) pe_int (fun _ _ => rfl)) pe_str (nomark _)) (pss_one (ps_ret pe_non)) pss_nil)
      (pss_one (ps_ret (pe_op op_add (pe_ix ix_tup (pv 0) pe_int (fun _ _ => rfl)) (pe_ix ix_list (pe_lst (pa_cons pe_int (pa_cons (pv 1) pa_nil))) (pe_callTy call_int1 (by rfl) T.z_int (by decide +kernel) (pa_cons (pe_cmpR op_notN (pv 1) pe_non (nomark _)) pa_nil)) (fun _ _ => rfl)))))))), ?_⟩
  cases o with
  | read k =>
    exact absurd hck (by show ¬ (false = true); decide)
  | put k n =>
    refine ⟨_, rfl, a, _, _, _, rfl, rfl, SqT.of hO, atI_nat (j := 0) rfl, rfl, _, rfl, ifT (decide_eq_true rfl) ?_⟩
    exact ⟨_, rfl, a, _, _, _, rfl, rfl, SqT.of hO, atI_nat (j := 2) rfl, h1 _ (Same.refl _)⟩
  | drop k =>
    refine ⟨_, rfl, a, _, _, _, rfl, rfl, SqT.of hO, atI_nat (j := 0) rfl, rfl, _, rfl, ifF (decide_eq_false fun q => absurd (V.str.inj q) (by decide +kernel)) ?_⟩
    refine ⟨_, rfl, a, _, _, _, rfl, rfl, SqT.of hO, atI_nat (j := 0) rfl, rfl, _, rfl, ifF (decide_eq_false fun q => absurd (V.str.inj q) (by decide +kernel)) ?_⟩
    refine ⟨_, rfl, a, _, _, _, rfl, rfl, SqT.of hO, atI_nat (j := 0) rfl, rfl, _, rfl, ifT (decide_eq_true rfl) ?_⟩
    exact h1 _ (Same.refl _)
  | add k n =>
    refine ⟨_, rfl, a, _, _, _, rfl, rfl, SqT.of hO, atI_nat (j := 0) rfl, rfl, _, rfl, ifF (decide_eq_false fun q => absurd (V.str.inj q) (by decide +kernel)) ?_⟩
    refine ⟨_, rfl, a, _, _, _, rfl, rfl, SqT.of hO, atI_nat (j := 0) rfl, rfl, _, rfl, ifF (decide_eq_false fun q => absurd (V.str.inj q) (by decide +kernel)) ?_⟩
    refine ⟨_, rfl, a, _, _, _, rfl, rfl, SqT.of hO, atI_nat (j := 0) rfl, rfl, _, rfl, ifF (decide_eq_false fun q => absurd (V.str.inj q) (by decide +kernel)) ?_⟩
    refine ⟨_, rfl, a, _, _, _, rfl, rfl, SqT.of hO, atI_nat (j := 2) rfl, _, rfl, (by show 2 ≤ sizeLine; decide), fun p np => ?_⟩
    have hOp := same_new (o := .lst [V.int 0, oV v]) np _ _ hO
    cases v with
    | none =>
      refine ⟨_, rfl, rfl, .inr ⟨_, rfl, p, _, _, .int 0, rfl, rfl, SqL.of upd_same, atI_nat (j := 0) rfl, _, _, rfl, rfl, ?_⟩⟩
      show Q (.int (n + 0)) _
      rw [Int.add_zero]
      exact h1 _ (same_new np)
    | some i =>
      refine ⟨_, rfl, rfl, .inr ⟨_, rfl, p, _, _, .int i, rfl, rfl, SqL.of upd_same, atI_nat (j := 1) rfl, _, _, rfl, rfl, ?_⟩⟩
      show Q (.int (n + i)) _
      rw [Int.add_comm]
      exact h1 _ (same_new np)
  | need k n =>
    exact absurd hck (by show ¬ (false = true); decide)
  | equal k w =>
    exact absurd hck (by show ¬ (false = true); decide)
  | copy k b =>
    refine ⟨_, rfl, a, _, _, _, rfl, rfl, SqT.of hO, atI_nat (j := 0) rfl, rfl, _, rfl, ifF (decide_eq_false fun q => absurd (V.str.inj q) (by decide +kernel)) ?_⟩
    refine ⟨_, rfl, a, _, _, _, rfl, rfl, SqT.of hO, atI_nat (j := 0) rfl, rfl, _, rfl, ifT (decide_eq_true rfl) ?_⟩
    exact ⟨_, rfl, h1 _ (Same.refl _)⟩

--PART /work/steering/wip/parts/lawstep2.lean
theorem rk1 {o : Op} {k : Str} (h : o.rk = some k) : o.vs[1]? = some (.str k) := by
  cases o <;> first | (cases h; rfl) | cases h
theorem mm_take {ps : Mp} {i : Nat} {e : Str × Option Int} (h : ps[i]? = some e) : mm (ps.take (i + 1)) = mput (mm (ps.take i)) e.1 e.2 := by
  unfold mm
  rw [take_succ h, List.foldl_append]
  rfl
def sp__law_step (T : Env K mg w) : Sp := fun vs H Q E => ∃ (p g : Addr) (as gs : List Addr) (ops : List Op) (ps : Mp), vs = [.ref p, .ref g] ∧ PAt K H p as ops ∧ GAt K H g gs ps ∧ ops.length ≤ 30 ∧ ps.length ≤ 30 ∧ ∀ x H', Same H H' → ResAt H' x (runP (mm ps) ops []) → Q x H'
theorem ok__law_step (T : Env K mg w) : FnOk P w K mg base (L2.CX P w) 2 T.a__law_step T.d__law_step ["program", "got"] (sp__law_step T) := by
  refine T.F__law_step.okX sc__law_step (fun vs H Q E h => by obtain ⟨_, _, _, _, _, _, rfl, _⟩ := h; rfl) (fun cdv A outer s H vs Q E hr h => ?_)
  obtain ⟨p, g, as, gs, ops, ps, rfl, hP, hG, hol, hpl, h1⟩ := h
  have hu64 := hu64_of hr
  have G__law_reads := ok__law_reads (P := P) (w := w) (base := base) T
  have G__law_fails := ok__law_fails (P := P) (w := w) (base := base) T
  have G__law_changes_key := ok__law_changes_key (P := P) (w := w) (base := base) T
  have G__law_becomes := ok__law_becomes (P := P) (w := w) (base := base) T
  refine ⟨_, (pss_cons (ps_set (i := 2) sc__law_step.nd rfl (Or.inl rfl) pe_dnewK)
      (pss_cons (ps_for (passes_of rfl) rfl (pi_list (pv 1)) (pg_name (i := 3) sc__law_step.nd rfl (Or.inl rfl)) (pss_one (ps_dput (hu_of hr) (pv 2) (pe_ix ix_tup (pv 3) pe_int (fun _ _ => rfl)) (pe_ix ix_tup (pv 3) pe_int (fun _ _ => rfl)) rfl)))
      (pss_cons (ps_set (i := 4) sc__law_step.nd rfl (Or.inr rfl) pe_dnewK)
      (pss_cons (ps_for (passes_of rfl) rfl (pi_seq (pv 0)) (pg_name (i := 5) sc__law_step.nd rfl (Or.inl rfl)) (pss_cons (ps_set (i := 6) sc__law_step.nd rfl (Or.inl rfl) pe_non)
      (pss_cons (ps_if (pt_val (pe_call G__law_reads (hr.mono (by decide)) rfl T.g__law_reads T.F__law_reads.kp T.b__law_reads .nil passL (pa_cons (pv 5) pa_nil))) (pss_cons (ps_if (PW.pt (pw_and (pt_cmp (pc_dnotin (hu_of hr) (pe_ix ix_tup (pv 5) pe_int (fun _ _ => rfl)) (pv 4)) rfl) (pw_and1 (pt_cmp (pc_dnotin (hu_of hr) (pe_ix ix_tup (pv 5) pe_int (fun _ _ => rfl)) (pv 2)) rfl)))) (pss_one (ps_ret (pe_tup (pa_cons pe_str (pa_cons (pe_ix ix_tup (pv 5) pe_int (fun _ _ => rfl)) pa_nil))))) pss_nil)
      (pss_cons (ps_set (i := 6) sc__law_step.nd rfl (Or.inl rfl) (pe_dget2 (hu_of hr) (pv 2) (pe_ix ix_tup (pv 5) pe_int (fun _ _ => rfl)) pe_non ⟨rfl, rfl, rfl, rfl⟩))
      (pss_one (ps_if (pt_cmp (pc_din (hu_of hr) (pe_ix ix_tup (pv 5) pe_int (fun _ _ => rfl)) (pv 4)) rfl) (pss_one (ps_set (i := 6) sc__law_step.nd rfl (Or.inl rfl) (pe_dget (hu_of hr) (pv 4) (pe_ix ix_tup (pv 5) pe_int (fun _ _ => rfl)) (fun _ _ => rfl)))) pss_nil)))) pss_nil)
      (pss_cons (ps_if (pt_val (pe_call G__law_fails (hr.mono (by decide)) rfl T.g__law_fails T.F__law_fails.kp T.b__law_fails .nil passL (pa_cons (pv 5) (pa_cons (pv 6) pa_nil)))) (pss_one (ps_ret (pe_tup (pa_cons pe_str pa_nil)))) pss_nil)
      (pss_cons (ps_set (i := 7) sc__law_step.nd rfl (Or.inl rfl) (pe_call G__law_changes_key (hr.mono (by decide)) rfl T.g__law_changes_key T.F__law_changes_key.kp T.b__law_changes_key .nil passL (pa_cons (pv 5) pa_nil)))
      (pss_one (ps_if (pt_cmpR op_notN (pv 7) pe_non (nomark _)) (pss_one (ps_dput (hu_of hr) (pv 4) (pv 7) (pe_call G__law_becomes (hr.mono (by decide)) rfl T.g__law_becomes T.F__law_becomes.kp T.b__law_becomes .nil passL (pa_cons (pv 5) (pa_cons (pv 6) pa_nil))) rfl)) pss_nil)))))))
      (pss_one (ps_ret (pe_tup (pa_cons pe_str (pa_cons (pe_callTy call_tuple_of (by rfl) T.z_tuple (by decide +kernel) (pa_cons (pe_lc (own := [("key", 8)]) (by rfl) sc__law_step.nd (pi_list (pe_callB (call_sortedD rfl) (by rfl) T.z_sorted (by decide +kernel) (pa_cons (pv 4) pa_nil))) (blkOk_by (own := [("key", 8)]) (N := ["program", "got", "known", "pair", "changed", "part", "current", "target", "key"]) (sc := defScope s__law_step) (by decide +kernel)) (fun _ _ _ _ _ => (pg_name (i := 8) sc__law_step.nd rfl (Or.inl rfl))) (fun _ _ _ _ _ => pts_nil) (fun _ _ _ _ _ => (pe_tup (pa_cons (pv 8) (pa_cons (pe_dget (hu_of hr) (pv 4) (pv 8) (fun _ _ => rfl)) pa_nil))))) pa_nil)) pa_nil))))))))), ?_⟩
  intro pk npk
  have s1 := same_new (o := .dK []) npk
  have hk0 : upd H pk (.dK []) pk = some (.dK (toK (mm (ps.take 0)))) := upd_same
  show tSeq _ _ _ _ (upd H pk (.dK []))
  generalize upd H pk (.dK []) = H1 at s1 hk0
  refine ⟨_, rfl, g, rfl, ⟨_, s1.seq hG.at_⟩, ?_⟩
  refine for_list (K := K) (a := g) (xs := gs.map V.ref) (fun i σ H' => ∃ v3, σ = [some (.ref p), some (.ref g), some (.ref pk), v3, none, none, none, none, none] ∧ Same H H' ∧ H' pk = some (.dK (toK (mm (ps.take i))))) ⟨none, rfl, s1, hk0⟩ (fun i σ H' _ ⟨_, _, h, _⟩ => h.seq hG.at_) ?_ ?_
  · rintro i x σ H' hx ⟨v3, rfl, sA, hk⟩
    obtain ⟨a, ha, rfl⟩ := mem_rf hx
    obtain ⟨e, he, hE⟩ := (hG.same sA).each i a ha
    have hml := mm_len (ps.take i)
    rw [List.length_take] at hml
    refine ⟨_, rfl, a, _, _, oV e.2, rfl, rfl, SqT.of hE, atI_nat (j := 1) rfl, _, rfl, _, rfl, a, _, _, .str e.1, rfl, rfl, SqT.of hE, atI_nat (j := 0) rfl, pk, _, rfl, dput_at hk (by omega) e.1 e.2, ?_⟩
    exact ⟨_, rfl, same_mut sA npk, by rw [upd_same, mm_take he]⟩
  rintro σ H2 ⟨v3, rfl, s2, hk⟩
  rw [List.length_map, hG.len, List.take_length] at hk
  have hml := mm_len ps
  generalize mm ps = K0 at h1 hml hk
  refine fun pc npc => ?_
  have npc0 : H pc = none := s2.free npc
  have hkc : pk ≠ pc := ne_of_none hk npc
  have s3 := s2.trans (same_new (o := .dK []) npc)
  have hk3 := same_new (o := .dK []) npc _ _ hk
  have hc3 : upd H2 pc (.dK []) pc = some (.dK (toK [])) := upd_same
  show tSeq _ _ _ _ (upd H2 pc (.dK []))
  generalize upd H2 pc (.dK []) = H3 at s3 hk3 hc3
  clear hk s2
  refine for_seq (a := p) (xs := as.map V.ref) (fun i σ H' => ∃ C v5 v6 v7, σ = [some (.ref p), some (.ref g), some (.ref pk), v3, some (.ref pc), v5, v6, v7, none] ∧ Same H H' ∧ H' pk = some (.dK (toK K0)) ∧ H' pc = some (.dK (toK C)) ∧ C.length ≤ i ∧ (keysOf C).Nodup ∧ runP K0 ops [] = runP K0 (ops.drop i) C) rfl hP.at_ s3 ⟨[], none, none, none, rfl, s3, hk3, hc3, Nat.le_refl _, List.nodup_nil, rfl⟩ (fun i σ H' _ ⟨_, _, _, _, _, h, _⟩ => h) ?_ ?_
  · rintro i x σ H' hx ⟨C, v5, v6, v7, rfl, sA, hk, hc, hCl, hCn, hrun⟩
    obtain ⟨a, ha, rfl⟩ := mem_rf hx
    obtain ⟨o, ho, hO⟩ := (hP.same sA).each i a ha
    have hi : i < ops.length := (List.getElem?_eq_some_iff.mp ho).1
    rw [drop_at ho] at hrun
    refine ⟨_, rfl, a, o, rfl, hO, _, rfl, ?_⟩
    apply via2p (fun σ HX => ∃ (v : Option Int), σ = [some (.ref p), some (.ref g), some (.ref pk), v3, some (.ref pc), some (.ref a), some (oV v), v7, none] ∧ HX = H' ∧ (o.gu v = true → runP K0 ops [] = .quit) ∧ (¬ o.gu v = true → runP K0 ops [] = runP K0 (ops.drop (i + 1)) (updC C o v)))
    · intro fin
      cases e1 : o.rk with
      | some k =>
        refine ifT rfl ?_
        have e4 := rk1 e1
        have fin2 : ∀ v, val K0 C k = some v → (o.gu v = true → runP K0 ops [] = .quit) ∧ (¬ o.gu v = true → runP K0 ops [] = runP K0 (ops.drop (i + 1)) (updC C o v)) := by
          intro v hv
          have hr2 : runP K0 ops [] = if o.gu v = true then .quit else runP K0 (ops.drop (i + 1)) (updC C o v) := by
            rw [hrun]
            show (match o.rk with | some k => _ | none => _) = _
            rw [e1]
            show (match val K0 C k with | none => _ | some v => _) = _
            rw [hv]
          exact ⟨fun h => by rw [hr2, if_pos h], fun h => by rw [hr2, if_neg h]⟩
        refine ⟨_, rfl, a, _, _, .str k, rfl, rfl, SqT.of hO, atI_nat e4, _, rfl, pc, _, rfl, dget_at hc k, _, rfl, ?_⟩
        cases qc : mget C k with
        | some w =>
          refine ifF rfl ?_
          have hv : val K0 C k = some w := by unfold val; rw [qc]
          refine ⟨_, rfl, pk, rfl, .inl ⟨_, .inl hk⟩, _, rfl, a, _, _, .str k, rfl, rfl, SqT.of hO, atI_nat e4, _, dget_at hk k, ?_⟩
          refine ⟨_, rfl, a, _, _, .str k, rfl, rfl, SqT.of hO, atI_nat e4, _, rfl, pc, _, rfl, dget_at hc k, _, rfl, ?_⟩
          rw [qc]
          refine ifT rfl ⟨_, rfl, _, rfl, a, _, _, .str k, rfl, rfl, SqT.of hO, atI_nat e4, pc, oV w, rfl, (by have := dget_at hc k; rw [qc] at this; exact this), ?_⟩
          exact fin _ _ ⟨w, rfl, rfl, (fin2 w hv).1, (fin2 w hv).2⟩
        | none =>
          refine ifT rfl ⟨_, rfl, a, _, _, .str k, rfl, rfl, SqT.of hO, atI_nat e4, _, rfl, pk, _, rfl, dget_at hk k, _, rfl, ?_⟩
          cases qk : mget K0 k with
          | none =>
            refine ifT rfl ⟨_, rfl, a, _, _, .str k, rfl, rfl, SqT.of hO, atI_nat e4, (by show 2 ≤ sizeLine; decide), fun z nz => ?_⟩
            refine h1 _ _ (sA.trans (same_new nz)) ?_
            rw [hrun]
            show ResAt _ _ (match o.rk with | some k => _ | none => _)
            rw [e1]
            show ResAt _ _ (match val K0 C k with | none => _ | some v => _)
            rw [show val K0 C k = none by unfold val; rw [qc, qk]]
            exact .ask z k upd_same
          | some w =>
            refine ifF rfl ?_
            have hv : val K0 C k = some w := by unfold val; rw [qc, qk]
            refine ⟨_, rfl, pk, rfl, .inl ⟨_, .inl hk⟩, _, rfl, a, _, _, .str k, rfl, rfl, SqT.of hO, atI_nat e4, _, dget_at hk k, ?_⟩
            rw [qk]
            refine ⟨_, rfl, a, _, _, .str k, rfl, rfl, SqT.of hO, atI_nat e4, _, rfl, pc, _, rfl, dget_at hc k, _, rfl, ?_⟩
            rw [qc]
            refine ifF rfl ?_
            exact fin _ _ ⟨w, rfl, rfl, (fin2 w hv).1, (fin2 w hv).2⟩
      | none =>
        refine ifF rfl ?_
        have hr2 : runP K0 ops [] = if o.gu none = true then .quit else runP K0 (ops.drop (i + 1)) (updC C o none) := by
          rw [hrun]
          show (match o.rk with | some k => _ | none => _) = _
          rw [e1]
        exact fin _ _ ⟨none, rfl, rfl, fun h => by rw [hr2, if_pos h], fun h => by rw [hr2, if_neg h]⟩
    rintro σ HX ⟨v, rfl, eX, f1, f2⟩
    rw [eX]
    clear eX
    refine ⟨_, rfl, _, rfl, a, o, v, rfl, hO, _, rfl, ?_⟩
    cases hgu : o.gu v with
    | true =>
      refine ifT rfl ⟨(by show 1 ≤ sizeLine; decide), fun z nz => ?_⟩
      refine h1 _ _ (sA.trans (same_new nz)) ?_
      rw [f1 hgu]
      exact .quit z upd_same
    | false =>
      have hrun2 := f2 (by rw [hgu]; decide)
      refine ifF rfl ⟨_, rfl, a, o, rfl, hO, ?_⟩
      cases e1 : o.ck with
      | some k =>
        have eu : updC C o v = mput C k (o.nv v) := by unfold updC; rw [e1]
        have hCl2 := mput_len C k (o.nv v)
        refine ⟨_, rfl, rfl, _, rfl, ifT rfl ?_⟩
        refine ⟨_, rfl, _, rfl, a, o, v, rfl, hO, (by rw [e1]; rfl), fun H5 s5 => ⟨_, rfl, _, rfl, pc, _, rfl, dput_at (s5 _ _ hc) (by omega) k _, ?_⟩⟩
        exact ⟨mput C k (o.nv v), _, _, _, rfl, same_mut (sA.trans s5) npc0, by rw [upd_ne hkc]; exact s5 _ _ hk, upd_same, by omega, nodup_mput hCn _ _, by rw [hrun2, eu]⟩
      | none =>
        have eu : updC C o v = C := by unfold updC; rw [e1]
        refine ⟨_, rfl, rfl, _, rfl, ifF rfl ?_⟩
        exact ⟨C, _, _, _, rfl, sA, hk, hc, by omega, hCn, by rw [hrun2, eu]⟩
  · rintro σ H' ⟨C, v5, v6, v7, rfl, sA, hk, hc, hCl, hCn, hrun⟩
    rw [List.length_map, hP.len] at hCl hrun
    rw [List.drop_length] at hrun
    have hrun : runP K0 ops [] = .done C := hrun
    rw [hrun] at h1
    refine ⟨_, rfl, pc, toK C, keysOf C, rfl, .inl hc, toK_keys C, (by unfold keysOf; rw [List.length_map]; omega), fun ys q hperm hsort nq => ?_⟩
    have hsr := srtOf_ok hCn hperm hsort
    have hyl : ys.length = C.length := by rw [hperm.length_eq]; unfold keysOf; rw [List.length_map]
    have s4 := sA.trans (same_new (o := .lst (ys.map V.str)) nq)
    have hq : upd H' q (.lst (ys.map V.str)) q = some (.lst (ys.map V.str)) := upd_same
    have hc4 : upd H' q (.lst (ys.map V.str)) pc = some (.dK (toK C)) := same_new nq _ _ hc
    refine ⟨q, rfl, ⟨_, SqL.of hq⟩, ?_⟩
    generalize upd H' q (.lst (ys.map V.str)) = H4 at s4 hq hc4
    refine fun D hD => lc_list (K := K) (a := q) (xs := ys.map V.str) (fun i HX => Same H4 HX ∧ ∃ as : List Addr, HX D = some (.lst (as.map V.ref)) ∧ as.length = i ∧ ∀ (j : Nat) (b : Addr), as[j]? = some b → b ≠ D ∧ ∃ e, (srtOf C ys)[j]? = some e ∧ HX b = some (.tup [.str e.1, oV e.2])) ⟨same_new hD, [], upd_same, rfl, fun j b hj => by simp at hj⟩ (fun i HX _ h => SqL.of (h.1 _ _ hq)) ?_ ?_
    · rintro i x HX hx ⟨sB, as2, hDD, hal, hae⟩
      obtain ⟨k, hki, rfl⟩ := mem_str hx
      have hi : i < ys.length := (List.getElem?_eq_some_iff.mp hki).1
      obtain ⟨v, hv⟩ := mget_mem (M := C) (hperm.mem_iff.mp (List.mem_of_getElem? hki))
      refine ⟨rfl, yes_if ?_⟩
      refine ⟨_, rfl, _, rfl, _, rfl, pc, oV v, rfl, (by have := dget_at (sB _ _ hc4) k; rw [hv] at this; exact this), (by show 2 ≤ sizeLine; decide), fun z nz => ?_⟩
      have nzD : z ≠ D := (ne_of_none hDD nz).symm
      refine ⟨_, same_new nz _ _ hDD, szl (by rw [List.length_map]; omega), same_mut (sB.trans (same_new nz)) hD, as2 ++ [z], by rw [upd_same, List.map_append]; rfl, by rw [List.length_append, hal]; rfl, ?_⟩
      intro j b hj
      by_cases c : j < as2.length
      · rw [List.getElem?_append_left c] at hj
        obtain ⟨g1, e, g2, g3⟩ := hae j b hj
        exact ⟨g1, e, g2, by rw [upd_ne g1]; exact same_new nz _ _ g3⟩
      · have hj2 : j = as2.length := by
          have := (List.getElem?_eq_some_iff.mp hj).1
          rw [List.length_append] at this
          have : j < as2.length + 1 := this
          omega
        subst hj2
        rw [List.getElem?_append_right (Nat.le_refl _), Nat.sub_self] at hj
        have eb : z = b := Option.some.inj hj
        subst eb
        refine ⟨nzD, (k, v), ?_, by rw [upd_ne nzD, upd_same]⟩
        unfold srtOf
        rw [hal, List.getElem?_map, hki]
        show some (k, (mget C k).getD none) = _
        rw [hv]
        rfl
    · rintro HX ⟨sB, as2, hDD, hal, hae⟩
      refine ⟨D, _, rfl, .inl ⟨SqL.of hDD, fun t nt => ⟨(by show 2 ≤ sizeLine; decide), fun z nz => ?_⟩⟩⟩
      have st := same_new (o := .tup (as2.map V.ref)) nt
      have sz := same_new (o := .tup [.str "done", .ref t]) nz
      refine h1 _ _ (s4.trans (sB.trans (st.trans sz))) (.done z t C (srtOf C ys) as2 upd_same (sz _ _ upd_same) ?_ (by rw [hal, List.length_map]; omega) hsr fun j b hj => ?_)
      · rw [hal]
        unfold srtOf
        rw [List.length_map, List.length_map]
      · obtain ⟨g1, e, g2, g3⟩ := hae j b hj
        exact ⟨e, g2, sz _ _ (st _ _ g3)⟩

--PART /work/steering/wip/parts/lawops2.lean
def opOk : Op → Prop
  | .read k | .put k _ | .drop k | .add k _ | .need k _ | .equal k _ => alT k
  | .copy a b => alT a ∧ alT b
/-- the operation's keys are among these -/
def opIn (ks : List Str) : Op → Prop
  | .read k | .put k _ | .drop k | .add k _ | .need k _ | .equal k _ => k ∈ ks
  | .copy a b => a ∈ ks ∧ b ∈ ks
def shownV (c : Int) : Option Int := match (c % 6).toNat with
  | 0 => none
  | 1 => some (c - 500)
  | 2 => some (c / 3 % 12)
  | 3 => some (-10 ^ (15 : Int).toNat - c)
  | 4 => some (10 ^ (15 : Int).toNat * c)
  | _ => some (c % 9)
def sp__law_shown (T : Env K mg w) : Sp := fun vs H Q E => ∃ c : Int, vs = [.int c] ∧ 0 ≤ c ∧ c < 1000 ∧ ∀ H', Same H H' → Q (oV (shownV c)) H'
theorem ok__law_shown (T : Env K mg w) : FnOk P w K mg base (L2.CX P w) 1 T.a__law_shown T.d__law_shown ["number"] (sp__law_shown T) := by
  refine T.F__law_shown.okX sc__law_shown (fun vs H Q E h => by obtain ⟨_, rfl, _⟩ := h; rfl) (fun cdv A outer s H vs Q E hr h => ?_)
  obtain ⟨c, rfl, h0, h1k, h1⟩ := h
  refine ⟨_, (pss_cons (ps_set (i := 0) sc__law_shown.nd rfl (Or.inl rfl) (pe_callTy call_int1 (by rfl) T.z_int (by decide +kernel) (pa_cons (pv 0) pa_nil)))
      (pss_one (ps_ret (pe_ix ix_list (pe_lst (pa_cons pe_non (pa_cons (pe_op op_sub (pv 0) pe_int) (pa_cons (pe_op op_mod (pe_op op_fdiv (pv 0) pe_int) pe_int) (pa_cons (pe_op op_sub (pe_un un_neg (pe_op op_pow pe_int pe_int)) (pv 0)) (pa_cons (pe_op op_mul (pe_op op_pow pe_int pe_int) (pv 0)) (pa_cons (pe_op op_mod (pv 0) pe_int) pa_nil))))))) (pe_op op_mod (pv 0) pe_int) (fun _ _ => rfl))))), ?_⟩
  refine ⟨_, rfl, .inl ⟨_, rfl, ?_⟩⟩
  refine ⟨_, rfl, _, _, rfl, rfl, ?_⟩
  refine ⟨_, rfl, _, _, rfl, rfl, ⟨by decide, by decide⟩, _, _, rfl, rfl, by show (0 : Int) < _; decide, ?_⟩
  refine ⟨_, _, rfl, rfl, ⟨by decide, by decide, by decide⟩, _, rfl, _, rfl, _, _, rfl, rfl, ?_⟩
  refine ⟨_, _, rfl, rfl, ⟨by decide, by decide, by decide⟩, _, rfl, _, _, rfl, rfl, .inl ⟨by decide, by decide⟩, ?_⟩
  refine ⟨_, rfl, _, _, rfl, rfl, by show (0 : Int) < _; decide, (by show 6 ≤ sizeLine; decide), fun p np => ?_⟩
  obtain ⟨j, hj, e⟩ : ∃ j : Nat, j < 6 ∧ c % 6 = (j : Int) := ⟨(c % 6).toNat, by omega, by omega⟩
  refine ⟨_, rfl, _, _, rfl, rfl, by show (0 : Int) < _; decide, ?_⟩
  have ej : (c % 6).toNat = j := by omega
  unfold shownV at h1
  rw [ej] at h1
  match j, hj with
  | 0, _ => exact ⟨p, _, _, _, rfl, rfl, SqL.of upd_same, at_of e rfl, h1 _ (same_new np)⟩
  | 1, _ => exact ⟨p, _, _, _, rfl, rfl, SqL.of upd_same, at_of e rfl, h1 _ (same_new np)⟩
  | 2, _ => exact ⟨p, _, _, _, rfl, rfl, SqL.of upd_same, at_of e rfl, h1 _ (same_new np)⟩
  | 3, _ => exact ⟨p, _, _, _, rfl, rfl, SqL.of upd_same, at_of e rfl, h1 _ (same_new np)⟩
  | 4, _ => exact ⟨p, _, _, _, rfl, rfl, SqL.of upd_same, at_of e rfl, h1 _ (same_new np)⟩
  | 5, _ => exact ⟨p, _, _, _, rfl, rfl, SqL.of upd_same, at_of e rfl, h1 _ (same_new np)⟩
theorem at_str {ks : List Str} {z : Int} (h0 : 0 ≤ z) (h : z < ks.length) : ∃ k, atI (ks.map V.str) z = some (.str k) ∧ k ∈ ks := by
  have hj : z.toNat < ks.length := by omega
  refine ⟨ks[z.toNat], ?_, List.getElem_mem hj⟩
  exact at_of (j := z.toNat) (by omega) (by rw [List.getElem?_map, List.getElem?_eq_getElem hj]; rfl)
def opNames : List Str := ["read", "put", "drop", "add", "need", "equal", "copy", "add"]
def sp__law_operation (T : Env K mg w) : Sp := fun vs H Q E => ∃ (c : Int) (a : Addr) (ks : List Str), vs = [.int c, .ref a] ∧ 0 ≤ c ∧ SqL K H a (ks.map V.str) ∧ ks.length = 4 ∧ kOk ks 10 ∧ ∀ p o H', Same H H' → H p = none → OpAt H' p o → opOk o → opIn ks o → Q (.ref p) H'
theorem ok__law_operation (T : Env K mg w) : FnOk P w K mg base (L2.CX P w) 1 T.a__law_operation T.d__law_operation ["number", "keys"] (sp__law_operation T) := by
  refine T.F__law_operation.okX sc__law_operation (fun vs H Q E h => by obtain ⟨_, _, _, rfl, _⟩ := h; rfl) (fun cdv A outer s H vs Q E hr h => ?_)
  obtain ⟨c, a, ks, rfl, h0, hS, hkl, hkk, h1⟩ := h
  refine ⟨_, (pss_cons (ps_set (i := 2) sc__law_operation.nd rfl (Or.inl rfl) (pe_ix ix_list (pe_lst (pa_cons pe_str (pa_cons pe_str (pa_cons pe_str (pa_cons pe_str (pa_cons pe_str (pa_cons pe_str (pa_cons pe_str (pa_cons pe_str pa_nil))))))))) (pe_op op_mod (pe_callTy call_int1 (by rfl) T.z_int (by decide +kernel) (pa_cons (pv 0) pa_nil)) pe_int) (fun _ _ => rfl)))
      (pss_cons (ps_set (i := 3) sc__law_operation.nd rfl (Or.inl rfl) (pe_ix ix_list (pv 1) (pe_op op_mod (pe_op op_fdiv (pv 0) pe_int) pe_int) (fun _ _ => rfl)))
      (pss_cons (ps_set (i := 4) sc__law_operation.nd rfl (Or.inl rfl) (pe_op op_sub (pe_op op_mod (pe_op op_fdiv (pv 0) pe_int) pe_int) pe_int))
      (pss_cons (ps_if (pt_cmpR op_eq (pe_op op_mod (pe_op op_fdiv (pv 0) pe_int) pe_int) pe_int (nomark _)) (pss_one (ps_set (i := 4) sc__law_operation.nd rfl (Or.inl rfl) (pe_op op_add (pe_op op_mul (pv 4) (pe_op op_pow pe_int pe_int)) pe_int))) pss_nil)
      (pss_cons (ps_if (PW.pt (pw_or (pt_cmpR op_eq (pv 2) pe_str (nomark _)) (pw_or1 (pt_cmpR op_eq (pv 2) pe_str (nomark _))))) (pss_one (ps_ret (pe_tup (pa_cons (pv 2) (pa_cons (pv 3) pa_nil))))) pss_nil)
      (pss_cons (ps_if (pt_cmpR op_eq (pv 2) pe_str (nomark _)) (pss_one (ps_ret (pe_tup (pa_cons (pv 2) (pa_cons (pv 3) (pa_cons (pe_ix ix_list (pv 1) (pe_op op_mod (pe_op op_fdiv (pv 0) pe_int) pe_int) (fun _ _ => rfl)) pa_nil)))))) pss_nil)
      (pss_cons (ps_if (PW.pt (pw_and (pt_cmpR op_eq (pv 2) pe_str (nomark _)) (pw_and1 (pt_cmpR op_lt (pv 4) pe_int (nomark _))))) (pss_one (ps_ret (pe_tup (pa_cons (pv 2) (pa_cons (pv 3) (pa_cons pe_non pa_nil)))))) pss_nil)
      (pss_cons (ps_if (pt_cmpR op_eq (pv 2) pe_str (nomark _)) (pss_one (ps_ret (pe_tup (pa_cons (pv 2) (pa_cons (pv 3) (pa_cons (pe_op op_sub (pv 4) pe_int) pa_nil)))))) pss_nil)
      (pss_one (ps_ret (pe_tup (pa_cons (pv 2) (pa_cons (pv 3) (pa_cons (pv 4) pa_nil)))))))))))))), ?_⟩
  refine ⟨(by show 8 ≤ sizeLine; decide), fun p np => ?_⟩
  have s1 := same_new (o := .lst (opNames.map V.str)) np
  have hS1 := s1.seq hS
  obtain ⟨j, hj, e⟩ : ∃ j : Nat, j < 8 ∧ c % 8 = (j : Int) := ⟨(c % 8).toNat, by omega, by omega⟩
  obtain ⟨nm, hnm⟩ : ∃ nm, opNames[j]? = some nm := ⟨_, List.getElem?_eq_getElem hj⟩
  refine ⟨_, rfl, .inl ⟨_, rfl, _, _, rfl, rfl, by show (0 : Int) < _; decide, p, _, _, .str nm, rfl, rfl, SqL.of upd_same, at_of e (by show (opNames.map V.str)[j]? = _; rw [List.getElem?_map, hnm]; rfl), ?_⟩⟩
  obtain ⟨k, hk, hkm⟩ := at_str (ks := ks) (z := c / 8 % 4) (by omega) (by omega)
  obtain ⟨k2, hk2, hkm2⟩ := at_str (ks := ks) (z := c / 32 % 4) (by omega) (by omega)
  have ka := (hkk k hkm).1
  have ka2 := (hkk k2 hkm2).1
  refine ⟨_, rfl, _, rfl, _, _, rfl, rfl, ⟨by decide, by decide⟩, _, _, rfl, rfl, by show (0 : Int) < _; decide, a, _, _, .str k, rfl, rfl, hS1, hk, ?_⟩
  refine ⟨_, rfl, _, _, rfl, rfl, ⟨by decide, by decide⟩, _, _, rfl, rfl, by show (0 : Int) < _; decide, _, _, rfl, rfl, ?_⟩
  show tSeq _ _ _ _ (upd H p (.lst (opNames.map V.str)))
  generalize upd H p (.lst (opNames.map V.str)) = H1 at s1 hS1
  refine ⟨_, rfl, _, _, rfl, rfl, ⟨by decide, by decide⟩, _, _, rfl, rfl, by show (0 : Int) < _; decide, rfl, _, rfl, ?_⟩
  apply via2p (fun σ HX => ∃ am : Int, σ = [some (.int c), some (.ref a), some (.str nm), some (.str k), some (.int am)] ∧ HX = H1)
  · intro fin
    refine iteD (fun _ => ?_) (fun _ => ?_)
    · refine ⟨_, rfl, _, _, rfl, rfl, ⟨by decide, by decide, by decide⟩, _, _, rfl, rfl, .inr ⟨by decide, by decide⟩, _, _, rfl, rfl, ?_⟩
      exact fin _ _ ⟨_, rfl, rfl⟩
    · exact fin _ _ ⟨_, rfl, rfl⟩
  rintro σ HX ⟨am, rfl, eX⟩
  rw [eX]
  clear eX
  have fin : ∀ (q : Addr) (o : Op), H1 q = none → opOk o → opIn ks o → Q (.ref q) (upd H1 q (.tup o.vs)) := fun q o nq ho hi => h1 q o _ (s1.trans (same_new nq)) (s1.free nq) upd_same ho hi
  match j, hj with
  | 0, _ =>
    cases hnm
    exact ⟨_, rfl, rfl, _, rfl, ifT (decide_eq_true rfl) ⟨_, rfl, _, rfl, (by show 2 ≤ sizeLine; decide), fun q nq => fin q (.read k) nq ka hkm⟩⟩
  | 1, _ =>
    cases hnm
    refine ⟨_, rfl, rfl, _, rfl, ifF (decide_eq_false fun q => absurd (V.str.inj q) (by decide +kernel)) ?_⟩
    refine ⟨_, rfl, rfl, _, rfl, ifF (decide_eq_false fun q => absurd (V.str.inj q) (by decide +kernel)) ?_⟩
    refine ⟨_, rfl, rfl, _, rfl, ifF (decide_eq_false fun q => absurd (V.str.inj q) (by decide +kernel)) ?_⟩
    refine ⟨_, rfl, rfl, _, rfl, ifF (decide_eq_false fun q => absurd (V.str.inj q) (by decide +kernel)) ?_⟩
    refine ⟨_, rfl, rfl, _, rfl, ifF (decide_eq_false fun q => absurd (V.str.inj q) (by decide +kernel)) ?_⟩
    exact ⟨_, rfl, _, rfl, _, rfl, (by show 3 ≤ sizeLine; decide), fun q nq => fin q (.put k am) nq ka hkm⟩
  | 2, _ =>
    cases hnm
    refine ⟨_, rfl, rfl, _, rfl, ifF (decide_eq_false fun q => absurd (V.str.inj q) (by decide +kernel)) ?_⟩
    exact ⟨_, rfl, rfl, _, rfl, ifT (decide_eq_true rfl) ⟨_, rfl, _, rfl, (by show 2 ≤ sizeLine; decide), fun q nq => fin q (.drop k) nq ka hkm⟩⟩
  | 3, _ =>
    cases hnm
    refine ⟨_, rfl, rfl, _, rfl, ifF (decide_eq_false fun q => absurd (V.str.inj q) (by decide +kernel)) ?_⟩
    refine ⟨_, rfl, rfl, _, rfl, ifF (decide_eq_false fun q => absurd (V.str.inj q) (by decide +kernel)) ?_⟩
    refine ⟨_, rfl, rfl, _, rfl, ifF (decide_eq_false fun q => absurd (V.str.inj q) (by decide +kernel)) ?_⟩
    refine ⟨_, rfl, rfl, _, rfl, ifF (decide_eq_false fun q => absurd (V.str.inj q) (by decide +kernel)) ?_⟩
    refine ⟨_, rfl, rfl, _, rfl, ifF (decide_eq_false fun q => absurd (V.str.inj q) (by decide +kernel)) ?_⟩
    exact ⟨_, rfl, _, rfl, _, rfl, (by show 3 ≤ sizeLine; decide), fun q nq => fin q (.add k am) nq ka hkm⟩
  | 4, _ =>
    cases hnm
    refine ⟨_, rfl, rfl, _, rfl, ifF (decide_eq_false fun q => absurd (V.str.inj q) (by decide +kernel)) ?_⟩
    refine ⟨_, rfl, rfl, _, rfl, ifF (decide_eq_false fun q => absurd (V.str.inj q) (by decide +kernel)) ?_⟩
    refine ⟨_, rfl, rfl, _, rfl, ifF (decide_eq_false fun q => absurd (V.str.inj q) (by decide +kernel)) ?_⟩
    refine ⟨_, rfl, rfl, _, rfl, ifF (decide_eq_false fun q => absurd (V.str.inj q) (by decide +kernel)) ?_⟩
    exact ⟨_, rfl, rfl, _, rfl, ifT (decide_eq_true rfl) ⟨_, rfl, _, rfl, _, rfl, _, _, rfl, rfl, (by show 3 ≤ sizeLine; decide), fun q nq => fin q (.need k (am - 4)) nq ka hkm⟩⟩
  | 5, _ =>
    cases hnm
    refine ⟨_, rfl, rfl, _, rfl, ifF (decide_eq_false fun q => absurd (V.str.inj q) (by decide +kernel)) ?_⟩
    refine ⟨_, rfl, rfl, _, rfl, ifF (decide_eq_false fun q => absurd (V.str.inj q) (by decide +kernel)) ?_⟩
    refine ⟨_, rfl, rfl, _, rfl, ifF (decide_eq_false fun q => absurd (V.str.inj q) (by decide +kernel)) ?_⟩
    refine ⟨_, rfl, rfl, _, rfl, ifT (decide_eq_true rfl) ⟨_, rfl, _, _, rfl, rfl, _, rfl, iteD (fun _ => ?_) (fun _ => ?_)⟩⟩
    · exact ⟨_, rfl, _, rfl, (by show 3 ≤ sizeLine; decide), fun q nq => fin q (.equal k none) nq ka hkm⟩
    · refine ⟨_, rfl, rfl, _, rfl, ifF (decide_eq_false fun q => absurd (V.str.inj q) (by decide +kernel)) ?_⟩
      exact ⟨_, rfl, _, rfl, _, rfl, (by show 3 ≤ sizeLine; decide), fun q nq => fin q (.equal k (some am)) nq ka hkm⟩
  | 6, _ =>
    cases hnm
    refine ⟨_, rfl, rfl, _, rfl, ifF (decide_eq_false fun q => absurd (V.str.inj q) (by decide +kernel)) ?_⟩
    refine ⟨_, rfl, rfl, _, rfl, ifF (decide_eq_false fun q => absurd (V.str.inj q) (by decide +kernel)) ?_⟩
    exact ⟨_, rfl, rfl, _, rfl, ifT (decide_eq_true rfl) ⟨_, rfl, _, rfl, _, rfl, _, rfl, _, _, rfl, rfl, ⟨by decide, by decide⟩, _, _, rfl, rfl, by show (0 : Int) < _; decide, a, _, _, .str k2, rfl, rfl, hS1, hk2, (by show 3 ≤ sizeLine; decide), fun q nq => fin q (.copy k k2) nq ⟨ka, ka2⟩ ⟨hkm, hkm2⟩⟩⟩
  | 7, _ =>
    cases hnm
    refine ⟨_, rfl, rfl, _, rfl, ifF (decide_eq_false fun q => absurd (V.str.inj q) (by decide +kernel)) ?_⟩
    refine ⟨_, rfl, rfl, _, rfl, ifF (decide_eq_false fun q => absurd (V.str.inj q) (by decide +kernel)) ?_⟩
    refine ⟨_, rfl, rfl, _, rfl, ifF (decide_eq_false fun q => absurd (V.str.inj q) (by decide +kernel)) ?_⟩
    refine ⟨_, rfl, rfl, _, rfl, ifF (decide_eq_false fun q => absurd (V.str.inj q) (by decide +kernel)) ?_⟩
    refine ⟨_, rfl, rfl, _, rfl, ifF (decide_eq_false fun q => absurd (V.str.inj q) (by decide +kernel)) ?_⟩
    exact ⟨_, rfl, _, rfl, _, rfl, (by show 3 ≤ sizeLine; decide), fun q nq => fin q (.add k am) nq ka hkm⟩
theorem push_ops {H H' : Hp} {D q : Addr} {as : List Addr} {ops : List Op} {o : Op} (hl : as.length = ops.length) (he : ∀ (j : Nat) (b : Addr), as[j]? = some b → b ≠ D ∧ ∃ o, ops[j]? = some o ∧ OpAt H b o) (hq : OpAt H' q o) (nq : q ≠ D) (hk : ∀ b u, H b = some u → b ≠ D → H' b = some u) :
    (as ++ [q]).length = (ops ++ [o]).length ∧ ∀ (j : Nat) (b : Addr), (as ++ [q])[j]? = some b → b ≠ D ∧ ∃ o', (ops ++ [o])[j]? = some o' ∧ OpAt H' b o' := by
  refine ⟨by rw [List.length_append, List.length_append, hl]; rfl, fun j b hj => ?_⟩
  by_cases c : j < as.length
  · rw [List.getElem?_append_left c] at hj
    obtain ⟨g1, e, g2, g3⟩ := he j b hj
    exact ⟨g1, e, by rw [List.getElem?_append_left (by rw [← hl]; exact c)]; exact g2, hk _ _ g3 g1⟩
  · have hj2 : j = as.length := by
      have := (List.getElem?_eq_some_iff.mp hj).1
      rw [List.length_append] at this
      have : j < as.length + 1 := this
      omega
    subst hj2
    rw [List.getElem?_append_right (Nat.le_refl _), Nat.sub_self] at hj
    have eb : q = b := Option.some.inj hj
    subst eb
    exact ⟨nq, o, by rw [hl, List.getElem?_append_right (Nat.le_refl _), Nat.sub_self]; rfl, hq⟩
def sp__law_program (T : Env K mg w) : Sp := fun vs H Q E => ∃ (c : Int) (a : Addr) (ks : List Str), vs = [.int c, .ref a] ∧ 0 ≤ c ∧ SqL K H a (ks.map V.str) ∧ ks.length = 4 ∧ kOk ks 10 ∧
  ∀ p as ops H', Same H H' → H p = none → H' p = some (.lst (as.map V.ref)) → PAt K H' p as ops → ops.length ≤ 6 → (∀ o ∈ ops, opOk o ∧ opIn ks o) → Q (.ref p) H'
theorem ok__law_program (T : Env K mg w) : FnOk P w K mg base (L2.CX P w) 2 T.a__law_program T.d__law_program ["cell", "keys"] (sp__law_program T) := by
  refine T.F__law_program.okX sc__law_program (fun vs H Q E h => by obtain ⟨_, _, _, rfl, _⟩ := h; rfl) (fun cdv A outer s H vs Q E hr h => ?_)
  obtain ⟨c, a, ks, rfl, h0, hS, hkl, hkk, h1⟩ := h
  have hu64 := hu64_of hr
  have G__law_draws := ok__law_draws (P := P) (w := w) (base := base) T
  have G__law_operation := ok__law_operation (P := P) (w := w) (base := base) T
  refine ⟨_, (pss_cons (ps_set (i := 2) sc__law_program.nd rfl (Or.inl rfl) (pe_call G__law_draws (hr.mono (by decide)) rfl T.g__law_draws T.F__law_draws.kp T.b__law_draws .nil passL (pa_cons (pv 0) (pa_cons pe_int (pa_cons pe_int pa_nil)))))
      (pss_one (ps_ret (pe_lc (own := [("number", 3)]) (by rfl) sc__law_program.nd (pi_list (pe_slice sl_list (pv 2) (po_some pe_int) (po_some (pe_op op_add (pe_op op_add pe_int (pe_op op_mod (pe_callTy call_int1 (by rfl) T.z_int (by decide +kernel) (pa_cons (pe_ix ix_list (pv 2) pe_int (fun _ _ => rfl)) pa_nil)) pe_int)) (pe_op op_mod (pe_op op_fdiv (pe_ix ix_list (pv 2) pe_int (fun _ _ => rfl)) pe_int) pe_int))))) (blkOk_by (own := [("number", 3)]) (N := ["cell", "keys", "numbers", "number"]) (sc := defScope s__law_program) (by decide +kernel)) (fun _ _ _ _ _ => (pg_name (i := 3) sc__law_program.nd rfl (Or.inl rfl))) (fun _ _ _ _ _ => pts_nil) (fun _ _ _ _ _ => (pe_call G__law_operation (hr.mono (by decide)) rfl T.g__law_operation T.F__law_operation.kp T.b__law_operation .nil passL (pa_cons (pv 3) (pa_cons (pv 1) pa_nil)))))))), ?_⟩
  refine ⟨_, rfl, c, 7, 4800, rfl, by decide, by decide, by decide, by decide, fun pN H1 s1 npN hN => ?_⟩
  have hDl : (draws c (7 : Int).toNat 4800).length = 7 := draws_len _ _ _
  have hDm : ∀ d ∈ draws c (7 : Int).toNat 4800, 0 ≤ d ∧ d < 4800 := draws_mem (by decide)
  have g0 : 0 ≤ (draws c (7 : Int).toNat 4800).getD 0 0 := (draws_at (c := c) (m := 7) (l := 4800) (by decide) (j := 0) (by decide)).1
  generalize draws c (7 : Int).toNat 4800 = D at hN hDl hDm g0
  obtain ⟨m, hm, hm7⟩ : ∃ m : Nat, 2 + D.getD 0 0 % 4 + D.getD 0 0 / 16 % 3 = (m : Int) ∧ m ≤ 7 := ⟨(2 + D.getD 0 0 % 4 + D.getD 0 0 / 16 % 3).toNat, by omega, by omega⟩
  refine ⟨_, rfl, _, rfl, _, rfl, pN, _, _, _, rfl, rfl, SqL.of hN, at_dd (D := D) 0 rfl (by omega), .inl ⟨_, rfl, _, _, rfl, rfl, by show (0 : Int) < _; decide, _, _, rfl, rfl, ?_⟩⟩
  refine ⟨_, rfl, pN, _, _, _, rfl, rfl, SqL.of hN, at_dd (D := D) 0 rfl (by omega), _, _, rfl, rfl, ⟨by decide, by decide⟩, _, _, rfl, rfl, by show (0 : Int) < _; decide, _, _, rfl, rfl, _, rfl, pN, _, rfl, SqL.of hN, fun q nq => ?_⟩
  rw [hm, show (1 : Int) = ((1 : Nat) : Int) from rfl, cut_fromto, ← List.map_drop, ← List.map_take]
  have s2 := s1.trans (same_new (o := .lst (((D.drop 1).take (m - 1)).map V.int)) nq)
  have hq : upd H1 q (.lst (((D.drop 1).take (m - 1)).map V.int)) q = some (.lst (((D.drop 1).take (m - 1)).map V.int)) := upd_same
  have hLl : ((D.drop 1).take (m - 1)).length ≤ 6 := by rw [List.length_take]; omega
  have hLm : ∀ d ∈ (D.drop 1).take (m - 1), 0 ≤ d := fun d h => (hDm d (List.mem_of_mem_drop (List.mem_of_mem_take h))).1
  generalize (D.drop 1).take (m - 1) = L at s2 hq hLl hLm
  generalize upd H1 q (.lst (L.map V.int)) = H2 at s2 hq
  refine ⟨q, rfl, ⟨_, SqL.of hq⟩, fun D1 hD => ?_⟩
  refine lc_list (K := K) (a := q) (xs := L.map V.int) (fun i HX => Same H2 HX ∧ ∃ as ops, HX D1 = some (.lst (as.map V.ref)) ∧ ops.length = i ∧ as.length = ops.length ∧ (∀ (j : Nat) (b : Addr), as[j]? = some b → b ≠ D1 ∧ ∃ o, ops[j]? = some o ∧ OpAt HX b o) ∧ ∀ o ∈ ops, opOk o ∧ opIn ks o) ⟨same_new hD, [], [], upd_same, rfl, rfl, fun j b hj => by simp at hj, fun o h => by simp at h⟩ (fun i HX _ h => SqL.of (h.1 _ _ hq)) ?_ ?_
  · rintro i x HX hx ⟨sB, as, ops, hDD, hol, hal, hae, hok⟩
    obtain ⟨d, hd, rfl⟩ := mem_int hx
    have hi : i < L.length := (List.getElem?_eq_some_iff.mp hd).1
    refine ⟨rfl, yes_if ?_⟩
    refine ⟨_, rfl, _, rfl, d, a, ks, rfl, hLm d (List.mem_of_getElem? hd), (s2.trans sB).seq hS, hkl, hkk, fun z o H5 s5 nz hz hoo hoi => ?_⟩
    have hD5 := s5 _ _ hDD
    have nzD : z ≠ D1 := (ne_of_none hDD nz).symm
    obtain ⟨pl, pe⟩ := push_ops (H' := upd H5 D1 (.lst (as.map V.ref ++ [V.ref z]))) hal (fun j b hj => by
      obtain ⟨g1, e, g2, g3⟩ := hae j b hj
      exact ⟨g1, e, g2, s5 _ _ g3⟩) (o := o) (q := z) (by show upd _ _ _ _ = _; rw [upd_ne nzD]; exact hz) nzD (fun b u hb hn => by rw [upd_ne hn]; exact hb)
    refine ⟨_, hD5, szl (by rw [List.length_map]; omega), same_mut (sB.trans s5) hD, as ++ [z], ops ++ [o], by rw [upd_same, List.map_append]; rfl, by rw [List.length_append, hol]; rfl, pl, pe, ?_⟩
    intro o' ho'
    rcases List.mem_append.mp ho' with z | z
    · exact hok o' z
    · have : o' = o := by simpa using z
      rw [this]
      exact ⟨hoo, hoi⟩
  · rintro HX ⟨sB, as, ops, hDD, hol, hal, hae, hok⟩
    rw [List.length_map] at hol
    exact h1 D1 as ops HX (s2.trans sB) (s2.free hD) hDD ⟨.inl (SqL.of hDD), hal, fun j b hj => (hae j b hj).2⟩ (by omega) hok

--PART /work/steering/wip/parts/k47b.lean
theorem len_sub : ∀ (l m : List Str), l.Nodup → (∀ x ∈ l, x ∈ m) → l.length ≤ m.length
  | [], _, _, _ => Nat.zero_le _
  | a :: l, m, hn, hs => by
    have hn := List.nodup_cons.mp hn
    have ham := hs a List.mem_cons_self
    have := len_sub l (m.erase a) hn.2 fun x hx => (List.mem_erase_of_ne (fun q : x = a => hn.1 (q ▸ hx))).mpr (hs x (List.mem_cons_of_mem _ hx))
    rw [List.length_erase_of_mem ham] at this
    have hp := List.length_pos_of_mem ham
    rw [List.length_cons]
    omega
theorem run_ask (K0 : Mp) : ∀ (ops : List Op) (C : Mp) (k : Str), runP K0 ops C = .ask k → mget K0 k = none ∧ k ∈ ops.filterMap Op.rk
  | [], C, k, h => by cases h
  | o :: r, C, k, h => by
    cases e1 : o.rk with
    | none =>
      have h : (match o.rk with | some k => (match val K0 C k with | none => Res.ask k | some v => if o.gu v = true then .quit else runP K0 r (updC C o v)) | none => if o.gu none = true then .quit else runP K0 r (updC C o none)) = .ask k := h
      rw [e1] at h
      simp only at h
      split at h
      · cases h
      · obtain ⟨a, b⟩ := run_ask K0 r _ k h
        exact ⟨a, by rw [List.filterMap_cons, e1]; exact b⟩
    | some k1 =>
      have h : (match o.rk with | some k => (match val K0 C k with | none => Res.ask k | some v => if o.gu v = true then .quit else runP K0 r (updC C o v)) | none => if o.gu none = true then .quit else runP K0 r (updC C o none)) = .ask k := h
      rw [e1] at h
      simp only at h
      cases e2 : val K0 C k1 with
      | none =>
        rw [e2] at h
        cases h
        refine ⟨?_, by rw [List.filterMap_cons, e1]; exact List.mem_cons_self⟩
        unfold val at e2
        cases e3 : mget C k with
        | none => rw [e3] at e2; exact e2
        | some w => rw [e3] at e2; cases e2
      | some w =>
        rw [e2] at h
        simp only at h
        split at h
        · cases h
        · obtain ⟨a, b⟩ := run_ask K0 r _ k h
          exact ⟨a, by rw [List.filterMap_cons, e1]; exact List.mem_cons_of_mem _ b⟩
theorem mget_none {M : Mp} {k : Str} (h : mget M k = none) : k ∉ keysOf M := fun q => by
  obtain ⟨v, hv⟩ := mget_mem q
  rw [hv] at h
  cases h
theorem keys_mm (ps : Mp) (k : Str) : k ∈ keysOf (mm ps) ↔ k ∈ keysOf ps := by
  have gen : ∀ (ps M : Mp), k ∈ keysOf (ps.foldl (fun M kv => mput M kv.1 kv.2) M) ↔ k ∈ keysOf M ∨ k ∈ keysOf ps := by
    intro ps
    induction ps with
    | nil => intro M; simp [keysOf]
    | cons a r ih =>
      intro M
      rw [List.foldl_cons, ih, keys_mput]
      have : keysOf (a :: r) = a.1 :: keysOf r := rfl
      rw [this, List.mem_cons]
      by_cases c : a.1 ∈ keysOf M
      · rw [if_pos c]
        constructor
        · rintro (h | h)
          · exact .inl h
          · exact .inr (.inr h)
        · rintro (h | h | h)
          · exact .inl h
          · exact .inl (h ▸ c)
          · exact .inr h
      · rw [if_neg c, List.mem_append]
        constructor
        · rintro ((h | h) | h)
          · exact .inl h
          · exact .inr (.inl (by simpa using h))
          · exact .inr (.inr h)
        · rintro (h | h | h)
          · exact .inl (.inl h)
          · exact .inl (.inr (by simp [h]))
          · exact .inr h
  have := gen ps []
  simpa [mm, keysOf] using this
theorem rk_al {o : Op} {k : Str} (h : opOk o) (e : o.rk = some k) : alT k := by
  cases o with
  | read j => cases e; exact h
  | put j n => cases e
  | drop j => cases e
  | add j n => cases e; exact h
  | need j n => cases e; exact h
  | equal j v => cases e; exact h
  | copy j b => cases e; exact h.1
--PART /work/steering/wip/parts/alone.lean
/-! ### programs that run alone -/
def alone (rows : Mp) (ops : List Op) : Nat → Mp → Mp × Option Mp
  | 0, got => (got, none)
  | n + 1, got => match runP (mm got) ops [] with
    | .ask k => alone rows ops n (got ++ [(k, (mget rows k).getD none)])
    | .quit => (got, none)
    | .done C => (got, some C)
/-- pairs in a list, in a tuple -/
structure GL (H : Hp) (p : Addr) (as : List Addr) (ws : Mp) : Prop where
  at_ : H p = some (.lst (as.map V.ref))
  len : as.length = ws.length
  each : ∀ (j : Nat) (a : Addr), as[j]? = some a → ∃ e, ws[j]? = some e ∧ H a = some (.tup [.str e.1, oV e.2])
structure WL (H : Hp) (p : Addr) (as : List Addr) (ws : Mp) : Prop where
  at_ : H p = some (.tup (as.map V.ref))
  len : as.length = ws.length
  each : ∀ (j : Nat) (a : Addr), as[j]? = some a → ∃ e, ws[j]? = some e ∧ H a = some (.tup [.str e.1, oV e.2])
theorem GL.same {H H' : Hp} {p : Addr} {as : List Addr} {ws : Mp} (h : GL H p as ws) (s : Same H H') : GL H' p as ws := ⟨s _ _ h.at_, h.len, fun j a e => by
  obtain ⟨o, h1, h2⟩ := h.each j a e
  exact ⟨o, h1, s _ _ h2⟩⟩
theorem WL.same {H H' : Hp} {p : Addr} {as : List Addr} {ws : Mp} (h : WL H p as ws) (s : Same H H') : WL H' p as ws := ⟨s _ _ h.at_, h.len, fun j a e => by
  obtain ⟨o, h1, h2⟩ := h.each j a e
  exact ⟨o, h1, s _ _ h2⟩⟩
theorem GL.g {K : PySem.W.Frag} {H : Hp} {p : Addr} {as : List Addr} {ws : Mp} (h : GL H p as ws) : GAt K H p as ws := ⟨SqL.of h.at_, h.len, h.each⟩
theorem GL.push {H H1 : Hp} {p q : Addr} {as : List Addr} {ws : Mp} (h : GL H p as ws) (s : Same H H1) {k : Str} {v : Option Int} (hq : H1 q = some (.tup [.str k, oV v])) : GL (upd H1 p (.lst (as.map V.ref ++ [.ref q]))) p (as ++ [q]) (ws ++ [(k, v)]) := by
  have hp1 := s _ _ h.at_
  have ne : ∀ {b : Addr} {xs : List V}, H1 b = some (.tup xs) → b ≠ p := fun hb w => by
    rw [w, hp1] at hb
    cases hb
  refine ⟨by rw [upd_same, List.map_append]; rfl, by rw [List.length_append, List.length_append, h.len]; rfl, fun j b hj => ?_⟩
  by_cases c : j < as.length
  · rw [List.getElem?_append_left c] at hj
    obtain ⟨e, g2, g3⟩ := h.each j b hj
    have g4 := s _ _ g3
    exact ⟨e, by rw [List.getElem?_append_left (by rw [← h.len]; exact c)]; exact g2, by rw [upd_ne (ne g4)]; exact g4⟩
  · have hj2 : j = as.length := by
      have := (List.getElem?_eq_some_iff.mp hj).1
      rw [List.length_append] at this
      have : j < as.length + 1 := this
      omega
    subst hj2
    rw [List.getElem?_append_right (Nat.le_refl _), Nat.sub_self] at hj
    have eb : q = b := Option.some.inj hj
    subst eb
    exact ⟨(k, v), by rw [h.len, List.getElem?_append_right (Nat.le_refl _), Nat.sub_self]; rfl, by rw [upd_ne (ne hq)]; exact hq⟩
/-- what running alone gives -/
structure AlAt (H : Hp) (p : Addr) (r : Mp × Option Mp) : Prop where
  ex : ∃ g w gs as L, H p = some (.tup [.ref g, .ref w, .bl r.2.isSome]) ∧ GL H g gs r.1 ∧ WL H w as L ∧ as.length ≤ 1000 ∧ (match r.2 with | none => L = [] | some C => Srt C L)
theorem AlAt.same {H H' : Hp} {p : Addr} {r : Mp × Option Mp} (h : AlAt H p r) (s : Same H H') : AlAt H' p r := by
  obtain ⟨g, w, gs, as, L, h1, h2, h3, h4, h5⟩ := h.ex
  exact ⟨g, w, gs, as, L, s _ _ h1, h2.same s, h3.same s, h4, h5⟩
/-- what has been asked -/
structure Gok (ops : List Op) (got : Mp) : Prop where
  nd : (keysOf got).Nodup
  sub : ∀ k ∈ keysOf got, k ∈ ops.filterMap Op.rk
theorem Gok.len {ops : List Op} {got : Mp} (h : Gok ops got) : got.length ≤ ops.length := by
  have h1 := len_sub _ _ h.nd h.sub
  have h2 := List.length_filterMap_le Op.rk ops
  have h3 : (keysOf got).length = got.length := by unfold keysOf; rw [List.length_map]
  omega
theorem Gok.ask {ops : List Op} {got : Mp} {k : Str} (h : Gok ops got) (hr : runP (mm got) ops [] = .ask k) (v : Option Int) : Gok ops (got ++ [(k, v)]) := by
  obtain ⟨a, b⟩ := run_ask (mm got) ops [] k hr
  have hk : k ∉ keysOf got := fun q => mget_none a ((keys_mm got k).mpr q)
  have e : keysOf (got ++ [(k, v)]) = keysOf got ++ [k] := by
    unfold keysOf
    rw [List.map_append]
    rfl
  refine ⟨?_, fun j hj => ?_⟩
  · rw [e]
    exact List.nodup_append.mpr ⟨h.nd, by simp, fun y hy z hz => by
      have : z = k := by simpa using hz
      rw [this]
      exact fun q => hk (q ▸ hy)⟩
  · rw [e] at hj
    rcases List.mem_append.mp hj with q | q
    · exact h.sub j q
    · have : j = k := by simpa using q
      rw [this]
      exact b
def sp_run_alone (T : Env K mg w) : Sp := fun vs H Q E => ∃ (d p : Addr) (as : List Addr) (ops : List Op) (M : Mp), vs = [.ref d, .ref p] ∧ H d = some (.dK (toK M)) ∧ PAt K H p as ops ∧ ops.length ≤ 6 ∧ ∀ x H', Same H H' → AlAt H' x (alone M ops 9 []) → Q (.ref x) H'
theorem ok_run_alone (T : Env K mg w) : FnOk P w K mg base (L2.CX P w) 3 T.a_run_alone T.d_run_alone ["rows", "program"] (sp_run_alone T) := by
  refine T.F_run_alone.okX sc_run_alone (fun vs H Q E h => by obtain ⟨_, _, _, _, _, rfl, _⟩ := h; rfl) (fun cdv A outer s H vs Q E hr h => ?_)
  obtain ⟨d, p, as, ops, M, rfl, hD, hP, hol, h1⟩ := h
  have hu64 := hu64_of hr
  have G_advance := ok_advance (P := P) (w := w) (base := base) T
  refine ⟨_, (pss_cons (ps_set (i := 2) sc_run_alone.nd rfl (Or.inl rfl) (pe_lst pa_nil))
      (pss_cons (ps_set (i := 3) sc_run_alone.nd rfl (Or.inl rfl) (pe_call G_advance (hr.mono (by decide)) rfl T.g_advance T.F_advance.kp T.b_advance .nil passL (pa_cons (pv 1) (pa_cons (pv 2) pa_nil))))
      (pss_cons (ps_while (passes_of rfl) (pt_cmpR op_eq (pe_ix ix_tup (pv 3) pe_int (fun _ _ => rfl)) pe_str (nomark _)) (pss_cons (ps_expr (pe_bm PySem.F.plainAttrs_list PySem.F.slot_list_append PySem.F.type_list_append mt_append (pv 2) (pa_cons (pe_tup (pa_cons (pe_ix ix_tup (pv 3) pe_int (fun _ _ => rfl)) (pa_cons (pe_dget1 (hu_of hr) (pv 0) (pe_ix ix_tup (pv 3) pe_int (fun _ _ => rfl)) ⟨rfl, rfl, rfl, rfl⟩) pa_nil))) pa_nil)))
      (pss_one (ps_set (i := 3) sc_run_alone.nd rfl (Or.inl rfl) (pe_call G_advance (hr.mono (by decide)) rfl T.g_advance T.F_advance.kp T.b_advance .nil passL (pa_cons (pv 1) (pa_cons (pv 2) pa_nil)))))))
      (pss_cons (ps_if (pt_cmpR op_eq (pe_ix ix_tup (pv 3) pe_int (fun _ _ => rfl)) pe_str (nomark _)) (pss_one (ps_ret (pe_tup (pa_cons (pv 2) (pa_cons (pe_tup pa_nil) (pa_cons pe_bl pa_nil)))))) pss_nil)
      (pss_one (ps_ret (pe_tup (pa_cons (pv 2) (pa_cons (pe_ix ix_tup (pv 3) pe_int (fun _ _ => rfl)) (pa_cons pe_bl pa_nil)))))))))), ?_⟩
  refine ⟨Nat.zero_le _, fun g ng => ?_⟩
  have s1 := same_new (o := .lst (([] : List Addr).map V.ref)) ng
  have hG1 : GL (upd H g (.lst (([] : List Addr).map V.ref))) g [] [] := ⟨upd_same, rfl, fun j a h => by simp at h⟩
  show tSeq _ _ _ _ (upd H g (.lst (([] : List Addr).map V.ref)))
  generalize upd H g (.lst (([] : List Addr).map V.ref)) = H1 at s1 hG1
  refine ⟨_, rfl, _, rfl, p, g, as, [], ops, [], rfl, hP.same s1, hG1.g, by omega, by show 0 ≤ 30; decide, fun x H2 s2 hx => ?_⟩
  refine ⟨fun m σ H' => ∃ (got : Mp) (gs : List Addr) (x : V), m = 7 - got.length ∧ σ = [some (.ref d), some (.ref p), some (.ref g), some x] ∧ Same H H' ∧ GL H' g gs got ∧ ResAt H' x (runP (mm got) ops []) ∧ Gok ops got ∧ alone M ops 9 [] = alone M ops (9 - got.length) got, ⟨_, [], [], x, rfl, rfl, s1.trans s2, hG1.same s2, hx, ⟨List.nodup_nil, fun k hk => by simp [keysOf] at hk⟩, rfl⟩, ?_⟩
  rintro m σ H' ⟨got, gs, x, rfl, rfl, sA, hG, hx, hok, hal⟩
  have hgl := hok.len
  have h9 : 9 - got.length = (8 - got.length) + 1 := by omega
  cases hrun : runP (mm got) ops [] with
  | ask k =>
    rw [hrun] at hx
    cases hx with
    | ask xp _ hX =>
      refine ⟨_, rfl, xp, _, _, _, rfl, rfl, SqT.of hX, atI_nat (j := 0) rfl, rfl, _, rfl, ifT (decide_eq_true rfl) ?_⟩
      refine ⟨fun σ' H' => _, fun _ _ h => h, ?_⟩
      refine ⟨_, rfl, .inl ⟨rfl, _, SqL.of hG.at_⟩, _, rfl, xp, _, _, .str k, rfl, rfl, SqT.of hX, atI_nat (j := 1) rfl, _, rfl, d, rfl, .inl ⟨_, .inl (sA _ _ hD)⟩, _, rfl, xp, _, _, .str k, rfl, rfl, SqT.of hX, atI_nat (j := 1) rfl, _, dget_at (sA _ _ hD) k, ?_⟩
      have hv : ((mget M k).map oV).getD .non = oV ((mget M k).getD none) := by cases mget M k <;> rfl
      rw [hv]
      refine ⟨(by show 2 ≤ sizeLine; decide), fun y ny => ?_⟩
      have sy := same_new (o := .tup [.str k, oV ((mget M k).getD none)]) ny
      refine ⟨g, _, _, rfl, rfl, sy _ _ hG.at_, szl (by rw [List.length_map, hG.len]; omega), ?_⟩
      have hG2 := hG.push sy (k := k) (v := (mget M k).getD none) upd_same
      have s3 : Same H (upd (upd H' y (.tup [.str k, oV ((mget M k).getD none)])) g (.lst (gs.map V.ref ++ [.ref y]))) := same_mut (sA.trans sy) ng
      show tSeq _ _ _ _ (upd (upd H' y (.tup [.str k, oV ((mget M k).getD none)])) g (.lst (gs.map V.ref ++ [.ref y])))
      generalize upd (upd H' y (.tup [.str k, oV ((mget M k).getD none)])) g (.lst (gs.map V.ref ++ [.ref y])) = H3 at hG2 s3
      have hok2 := hok.ask hrun ((mget M k).getD none)
      have hgl2 := hok2.len
      rw [List.length_append] at hgl2
      have hgl2 : got.length + 1 ≤ ops.length := hgl2
      refine ⟨_, rfl, _, rfl, p, g, as, _, ops, _, rfl, hP.same s3, hG2.g, by omega, by rw [List.length_append]; show got.length + 1 ≤ _; omega, fun x4 H4 s4 hx4 => ?_⟩
      refine ⟨7 - (got.length + 1), by omega, got ++ [(k, (mget M k).getD none)], _, x4, by rw [List.length_append]; rfl, rfl, s3.trans s4, hG2.same s4, hx4, hok2, ?_⟩
      rw [hal, h9, List.length_append]
      show (match runP (mm got) ops [] with | .ask k => alone M ops (8 - got.length) (got ++ [(k, (mget M k).getD none)]) | .quit => (got, none) | .done C => (got, some C)) = alone M ops (9 - (got.length + 1)) _
      rw [hrun]
      show alone M ops (8 - got.length) _ = _
      rw [show 9 - (got.length + 1) = 8 - got.length by omega]
  | quit =>
    rw [hrun] at hx
    have hres : alone M ops 9 [] = (got, none) := by
      rw [hal, h9]
      show (match runP (mm got) ops [] with | .ask k => alone M ops (8 - got.length) (got ++ [(k, (mget M k).getD none)]) | .quit => (got, none) | .done C => (got, some C)) = _
      rw [hrun]
    rw [hres] at h1
    cases hx with
    | quit xp hX =>
      refine ⟨_, rfl, xp, _, _, _, rfl, rfl, SqT.of hX, atI_nat (j := 0) rfl, rfl, _, rfl, ifF (decide_eq_false fun q => absurd (V.str.inj q) (by decide +kernel)) ?_⟩
      refine ⟨_, rfl, xp, _, _, _, rfl, rfl, SqT.of hX, atI_nat (j := 0) rfl, rfl, _, rfl, ifT (decide_eq_true rfl) ?_⟩
      refine ⟨_, rfl, (by show 0 ≤ sizeLine; decide), fun w nw => ⟨(by show 3 ≤ sizeLine; decide), fun z nz => ?_⟩⟩
      have sw := same_new (o := .tup (([] : List Addr).map V.ref)) nw
      have sz := same_new (o := .tup [.ref g, .ref w, .bl false]) nz
      exact h1 z _ ((sA.trans sw).trans sz) ⟨g, w, gs, [], [], upd_same, (hG.same sw).same sz, ⟨sz _ _ upd_same, rfl, fun j a h => by simp at h⟩, Nat.zero_le _, rfl⟩
  | done C =>
    rw [hrun] at hx
    have hres : alone M ops 9 [] = (got, some C) := by
      rw [hal, h9]
      show (match runP (mm got) ops [] with | .ask k => alone M ops (8 - got.length) (got ++ [(k, (mget M k).getD none)]) | .quit => (got, none) | .done C => (got, some C)) = _
      rw [hrun]
    rw [hres] at h1
    cases hx with
    | done xp t _ L as2 hX ht hl hb hs he =>
      refine ⟨_, rfl, xp, _, _, _, rfl, rfl, SqT.of hX, atI_nat (j := 0) rfl, rfl, _, rfl, ifF (decide_eq_false fun q => absurd (V.str.inj q) (by decide +kernel)) ?_⟩
      refine ⟨_, rfl, xp, _, _, _, rfl, rfl, SqT.of hX, atI_nat (j := 0) rfl, rfl, _, rfl, ifF (decide_eq_false fun q => absurd (V.str.inj q) (by decide +kernel)) ?_⟩
      refine ⟨_, rfl, _, rfl, xp, _, _, .ref t, rfl, rfl, SqT.of hX, atI_nat (j := 1) rfl, (by show 3 ≤ sizeLine; decide), fun z nz => ?_⟩
      have sz := same_new (o := .tup [.ref g, .ref t, .bl true]) nz
      have hW : WL H' t as2 L := ⟨ht, hl, he⟩
      exact h1 z _ (sA.trans sz) ⟨g, t, gs, as2, L, upd_same, hG.same sz, hW.same sz, hb, hs⟩
def sp__law_alone (T : Env K mg w) : Sp := fun vs H Q E => ∃ (d p : Addr) (as : List Addr) (ops : List Op) (M : Mp), vs = [.ref d, .ref p] ∧ H d = some (.dK (toK M)) ∧ PAt K H p as ops ∧ ops.length ≤ 6 ∧ ∀ x H', Same H H' → AlAt H' x (alone M ops 9 []) → Q (.ref x) H'
theorem ok__law_alone (T : Env K mg w) : FnOk P w K mg base (L2.CX P w) 3 T.a__law_alone T.d__law_alone ["rows", "program"] (sp__law_alone T) := by
  refine T.F__law_alone.okX sc__law_alone (fun vs H Q E h => by obtain ⟨_, _, _, _, _, rfl, _⟩ := h; rfl) (fun cdv A outer s H vs Q E hr h => ?_)
  obtain ⟨d, p, as, ops, M, rfl, hD, hP, hol, h1⟩ := h
  have hu64 := hu64_of hr
  have G__law_step := ok__law_step (P := P) (w := w) (base := base) T
  refine ⟨_, (pss_cons (ps_set (i := 2) sc__law_alone.nd rfl (Or.inl rfl) (pe_lst pa_nil))
      (pss_cons (ps_for (passes_of rfl) rfl (pi_range1 rfl T.z_range (pa_cons pe_int pa_nil)) (pg_name (i := 3) sc__law_alone.nd rfl (Or.inl rfl)) (pss_cons (ps_set (i := 4) sc__law_alone.nd rfl (Or.inl rfl) (pe_call G__law_step (hr.mono (by decide)) rfl T.g__law_step T.F__law_step.kp T.b__law_step .nil passL (pa_cons (pv 1) (pa_cons (pv 2) pa_nil))))
      (pss_cons (ps_if (pt_cmpR op_eq (pe_ix ix_tup (pv 4) pe_int (fun _ _ => rfl)) pe_str (nomark _)) (pss_one (ps_ret (pe_tup (pa_cons (pv 2) (pa_cons (pe_tup pa_nil) (pa_cons pe_bl pa_nil)))))) pss_nil)
      (pss_cons (ps_if (pt_cmpR op_eq (pe_ix ix_tup (pv 4) pe_int (fun _ _ => rfl)) pe_str (nomark _)) (pss_one (ps_ret (pe_tup (pa_cons (pv 2) (pa_cons (pe_ix ix_tup (pv 4) pe_int (fun _ _ => rfl)) (pa_cons pe_bl pa_nil)))))) pss_nil)
      (pss_one (ps_expr (pe_bm PySem.F.plainAttrs_list PySem.F.slot_list_append PySem.F.type_list_append mt_append (pv 2) (pa_cons (pe_tup (pa_cons (pe_ix ix_tup (pv 4) pe_int (fun _ _ => rfl)) (pa_cons (pe_dget2 (hu_of hr) (pv 0) (pe_ix ix_tup (pv 4) pe_int (fun _ _ => rfl)) pe_non ⟨rfl, rfl, rfl, rfl⟩) pa_nil))) pa_nil))))))))
      (pss_one (ps_ret (pe_tup (pa_cons (pv 2) (pa_cons (pe_tup pa_nil) (pa_cons pe_bl pa_nil)))))))), ?_⟩
  refine ⟨Nat.zero_le _, fun g ng => ?_⟩
  have s1 := same_new (o := .lst (([] : List Addr).map V.ref)) ng
  have hG1 : GL (upd H g (.lst (([] : List Addr).map V.ref))) g [] [] := ⟨upd_same, rfl, fun j a h => by simp at h⟩
  show tSeq _ _ _ _ (upd H g (.lst (([] : List Addr).map V.ref)))
  generalize upd H g (.lst (([] : List Addr).map V.ref)) = H1 at s1 hG1
  refine ⟨9, rfl, by decide, by decide, for_range (n := 9) (fun i σ H' => ∃ (got : Mp) (gs : List Addr) (v3 v4 : Option V), σ = [some (.ref d), some (.ref p), some (.ref g), v3, v4] ∧ got.length = i ∧ Same H H' ∧ GL H' g gs got ∧ Gok ops got ∧ alone M ops 9 [] = alone M ops (9 - i) got) ⟨[], [], none, none, rfl, rfl, s1, hG1, ⟨List.nodup_nil, fun k hk => by simp [keysOf] at hk⟩, rfl⟩ ?_ ?_⟩
  · rintro i σ H' hi ⟨got, gs, v3, v4, rfl, hgi, sA, hG, hok, hal⟩
    have hgl := hok.len
    have h9 : 9 - i = (8 - i) + 1 := by omega
    refine ⟨_, rfl, _, rfl, p, g, as, gs, ops, got, rfl, hP.same sA, hG.g, by omega, by omega, fun x H2 s2 hx => ?_⟩
    have sB := sA.trans s2
    have hG2 := hG.same s2
    cases hrun : runP (mm got) ops [] with
    | ask k =>
      rw [hrun] at hx
      cases hx with
      | ask xp _ hX =>
        refine ⟨_, rfl, xp, _, _, _, rfl, rfl, SqT.of hX, atI_nat (j := 0) rfl, rfl, _, rfl, ifF (decide_eq_false fun q => absurd (V.str.inj q) (by decide +kernel)) ?_⟩
        refine ⟨_, rfl, xp, _, _, _, rfl, rfl, SqT.of hX, atI_nat (j := 0) rfl, rfl, _, rfl, ifF (decide_eq_false fun q => absurd (V.str.inj q) (by decide +kernel)) ?_⟩
        refine ⟨_, rfl, .inl ⟨rfl, _, SqL.of hG2.at_⟩, _, rfl, xp, _, _, .str k, rfl, rfl, SqT.of hX, atI_nat (j := 1) rfl, _, rfl, d, rfl, .inl ⟨_, .inl (sB _ _ hD)⟩, _, rfl, xp, _, _, .str k, rfl, rfl, SqT.of hX, atI_nat (j := 1) rfl, _, dget_at (sB _ _ hD) k, ?_⟩
        have hv : ((mget M k).map oV).getD .non = oV ((mget M k).getD none) := by cases mget M k <;> rfl
        rw [hv]
        refine ⟨(by show 2 ≤ sizeLine; decide), fun y ny => ?_⟩
        have sy := same_new (o := .tup [.str k, oV ((mget M k).getD none)]) ny
        refine ⟨g, _, _, rfl, rfl, sy _ _ hG2.at_, szl (by rw [List.length_map, hG2.len]; omega), ?_⟩
        refine ⟨got ++ [(k, (mget M k).getD none)], _, _, _, rfl, by rw [List.length_append, hgi]; rfl, same_mut (sB.trans sy) ng, hG2.push sy upd_same, hok.ask hrun _, ?_⟩
        rw [hal, h9]
        show (match runP (mm got) ops [] with | .ask k => alone M ops (8 - i) (got ++ [(k, (mget M k).getD none)]) | .quit => (got, none) | .done C => (got, some C)) = _
        rw [hrun]
        show alone M ops (8 - i) _ = _
        rw [show 9 - (i + 1) = 8 - i by omega]
    | quit =>
      rw [hrun] at hx
      have hres : alone M ops 9 [] = (got, none) := by
        rw [hal, h9]
        show (match runP (mm got) ops [] with | .ask k => alone M ops (8 - i) (got ++ [(k, (mget M k).getD none)]) | .quit => (got, none) | .done C => (got, some C)) = _
        rw [hrun]
      rw [hres] at h1
      cases hx with
      | quit xp hX =>
        refine ⟨_, rfl, xp, _, _, _, rfl, rfl, SqT.of hX, atI_nat (j := 0) rfl, rfl, _, rfl, ifT (decide_eq_true rfl) ?_⟩
        refine ⟨_, rfl, (by show 0 ≤ sizeLine; decide), fun w nw => ⟨(by show 3 ≤ sizeLine; decide), fun z nz => ?_⟩⟩
        have sw := same_new (o := .tup (([] : List Addr).map V.ref)) nw
        have sz := same_new (o := .tup [.ref g, .ref w, .bl false]) nz
        exact h1 z _ ((sB.trans sw).trans sz) ⟨g, w, gs, [], [], upd_same, (hG2.same sw).same sz, ⟨sz _ _ upd_same, rfl, fun j a h => by simp at h⟩, Nat.zero_le _, rfl⟩
    | done C =>
      rw [hrun] at hx
      have hres : alone M ops 9 [] = (got, some C) := by
        rw [hal, h9]
        show (match runP (mm got) ops [] with | .ask k => alone M ops (8 - i) (got ++ [(k, (mget M k).getD none)]) | .quit => (got, none) | .done C => (got, some C)) = _
        rw [hrun]
      rw [hres] at h1
      cases hx with
      | done xp t _ L as2 hX ht hl hb hs he =>
        refine ⟨_, rfl, xp, _, _, _, rfl, rfl, SqT.of hX, atI_nat (j := 0) rfl, rfl, _, rfl, ifF (decide_eq_false fun q => absurd (V.str.inj q) (by decide +kernel)) ?_⟩
        refine ⟨_, rfl, xp, _, _, _, rfl, rfl, SqT.of hX, atI_nat (j := 0) rfl, rfl, _, rfl, ifT (decide_eq_true rfl) ?_⟩
        refine ⟨_, rfl, _, rfl, xp, _, _, .ref t, rfl, rfl, SqT.of hX, atI_nat (j := 1) rfl, (by show 3 ≤ sizeLine; decide), fun z nz => ?_⟩
        have sz := same_new (o := .tup [.ref g, .ref t, .bl true]) nz
        have hW : WL H2 t as2 L := ⟨ht, hl, he⟩
        exact h1 z _ (sB.trans sz) ⟨g, t, gs, as2, L, upd_same, hG2.same sz, hW.same sz, hb, hs⟩
  · rintro σ H' ⟨got, gs, v3, v4, rfl, hgi, sA, hG, hok, hal⟩
    have hgl := hok.len
    omega

--PART /work/steering/wip/parts/dok.lean
/-! ### data that can be compared with itself -/
structure Dok (n : Nat) (d : PyData) : Prop where
  lay : PyData.canLay0 d = true
  dep : PyData.depth d ≤ n
  eq : PyData.eqv d d = true
theorem Dok.all {n : Nat} : ∀ xs : List PyData, (∀ x ∈ xs, Dok n x) → PyData.canLayAll0 xs = true ∧ PyData.depthAll xs ≤ n ∧ PyData.eqvAll xs xs = true
  | [], _ => ⟨rfl, by rw [PyData.depthAll]; omega, rfl⟩
  | x :: r, h => by
    obtain ⟨h1, h2, h3⟩ := Dok.all r fun y hy => h y (List.mem_cons_of_mem _ hy)
    have hx := h x List.mem_cons_self
    refine ⟨?_, ?_, ?_⟩
    · show (PyData.canLay0 x && PyData.canLayAll0 r) = true
      rw [h1, hx.lay]
      rfl
    · have := hx.dep
      rw [PyData.depthAll]
      omega
    · show (PyData.eqv x x && PyData.eqvAll r r) = true
      rw [h3, hx.eq]
      rfl
theorem Dok.none (n : Nat) : Dok n .none := ⟨rfl, by rw [PyData.depth]; omega, rfl⟩
theorem Dok.int (n : Nat) (i : Int) : Dok n (.int i) := ⟨rfl, by rw [PyData.depth]; omega, by show (i == i) = true; simp⟩
theorem Dok.str (n : Nat) {t : Str} (h : alT t) : Dok n (.str t) := ⟨by unfold PyData.canLay0; exact h.strOk, by rw [PyData.depth]; omega, by show (t == t) = true; simp⟩
theorem Dok.list {n : Nat} {xs : List PyData} (h : ∀ x ∈ xs, Dok n x) : Dok (n + 1) (.list xs) := by
  obtain ⟨h1, h2, h3⟩ := Dok.all xs h
  exact ⟨by unfold PyData.canLay0; exact h1, by unfold PyData.depth; omega, h3⟩
theorem Dok.tup {n : Nat} {xs : List PyData} (h : ∀ x ∈ xs, Dok n x) : Dok (n + 1) (.tuple xs) := by
  obtain ⟨h1, h2, h3⟩ := Dok.all xs h
  exact ⟨by unfold PyData.canLay0; exact h1, by unfold PyData.depth; omega, h3⟩
theorem Dok.shaped {n : Nat} {d : PyData} (h : Dok n d) (hn : n ≤ 64) : SeqAt.shaped d = true := by
  unfold SeqAt.shaped
  have := h.dep
  rw [h.lay, decide_eq_true (show d.depth ≤ 64 by omega)]
  rfl
theorem dpAll_of {α : Type} {K : PySem.W.Frag} {H : Hp} (d : α → PyData) : ∀ (as : List Addr) (bs : List α), as.length = bs.length → (∀ (j : Nat) (a : Addr), as[j]? = some a → ∃ b, bs[j]? = some b ∧ Dp K H (.ref a) (d b)) → DpAll K H (as.map V.ref) (bs.map d)
  | [], [], _, _ => .nil
  | [], _ :: _, h, _ => by simp at h
  | _ :: _, [], h, _ => by simp at h
  | a :: as, b :: bs, h, e => by
    obtain ⟨b', h1, h2⟩ := e 0 a rfl
    have : b = b' := Option.some.inj h1
    subst this
    exact .cons h2 (dpAll_of d as bs (Nat.succ.inj h) fun j x hj => e (j + 1) x hj)

--PART /work/steering/wip/parts/k48.lean

/-! rows behind writes -/
def mdrop (M : Mp) (k : Str) : Mp := M.filter fun kv => decide (kv.1 ≠ k)
theorem toK_drop (M : Mp) (k : Str) : dropK (toK M) (Sum.inr k : Key) = toK (mdrop M k) := by
  unfold dropK mdrop toK
  induction M with
  | nil => rfl
  | cons a r ih =>
    rw [List.map_cons, List.filter_cons, List.filter_cons]
    by_cases c : a.1 = k
    · rw [if_neg (by simp [c]), if_neg (by simp [c])]
      exact ih
    · rw [if_pos (by simp [c]), if_pos (by simp [c]), List.map_cons, ih]
theorem keys_mdrop (M : Mp) (k : Str) : keysOf (mdrop M k) = (keysOf M).filter fun j => decide (j ≠ k) := by
  unfold keysOf mdrop
  rw [List.filter_map]
  rfl
theorem mget_mdrop (M : Mp) (k j : Str) : mget (mdrop M k) j = if j = k then none else mget M j := by
  unfold mget mdrop
  induction M with
  | nil => split <;> rfl
  | cons a r ih =>
    rw [List.filter_cons]
    by_cases c : a.1 = k
    · rw [if_neg (by simp [c]), ih]
      by_cases d : j = k
      · rw [if_pos d, if_pos d]
      · rw [if_neg d, if_neg d, List.find?_cons, decide_eq_false (show ¬ a.1 = j from fun q => d (q.symm.trans c))]
    · rw [if_pos (by simp [c]), List.find?_cons, List.find?_cons]
      by_cases e : a.1 = j
      · rw [decide_eq_true e, if_neg (fun q => c (e.trans q))]
      · rw [decide_eq_false e]
        exact ih
def put1 (M : Mp) (e : Str × Option Int) : Mp := match e.2 with
  | none => mdrop M e.1
  | some i => mput M e.1 (some i)
def putAll (M L : Mp) : Mp := L.foldl put1 M
theorem mget_put1 (M : Mp) (e : Str × Option Int) (k : Str) : mget (put1 M e) k = if k = e.1 then e.2.map some else mget M k := by
  obtain ⟨j, v⟩ := e
  cases v with
  | none => exact mget_mdrop M j k
  | some i => exact mget_mput M j (some i) k
theorem mget_cons (e : Str × Option Int) (r : Mp) (k : Str) : mget (e :: r) k = if e.1 = k then some e.2 else mget r k := by
  unfold mget
  rw [List.find?_cons]
  by_cases c : e.1 = k
  · rw [decide_eq_true c, if_pos c]
    rfl
  · rw [decide_eq_false c, if_neg c]
theorem mget_no {M : Mp} {k : Str} (h : k ∉ keysOf M) : mget M k = none := by
  cases q : mget M k with
  | none => rfl
  | some v =>
    exfalso
    unfold mget at q
    cases z : M.find? fun kv => decide (kv.1 = k) with
    | none => rw [z] at q; cases q
    | some y =>
      have e : y.1 = k := by simpa using List.find?_some z
      exact h (List.mem_map.mpr ⟨y, List.mem_of_find?_eq_some z, e⟩)
theorem mget_putAll : ∀ (L M : Mp) (k : Str), (keysOf L).Nodup → mget (putAll M L) k = match mget L k with
    | none => mget M k
    | some v => v.map some
  | [], M, k, _ => rfl
  | e :: r, M, k, hn => by
    have hn2 := List.nodup_cons.mp (show (e.1 :: keysOf r).Nodup from hn)
    show mget (putAll (put1 M e) r) k = _
    rw [mget_putAll r (put1 M e) k hn2.2, mget_cons]
    by_cases c : e.1 = k
    · rw [if_pos c, mget_no (show k ∉ keysOf r from c ▸ hn2.1)]
      show mget (put1 M e) k = e.2.map some
      rw [mget_put1, if_pos c.symm]
    · rw [if_neg c]
      cases mget r k with
      | none =>
        show mget (put1 M e) k = mget M k
        rw [mget_put1, if_neg (Ne.symm c)]
      | some v => rfl
theorem nd_put1 {M : Mp} (h : (keysOf M).Nodup) (e : Str × Option Int) : (keysOf (put1 M e)).Nodup := by
  obtain ⟨j, v⟩ := e
  cases v with
  | none =>
    show (keysOf (mdrop M j)).Nodup
    rw [keys_mdrop]
    exact h.filter _
  | some i => exact nodup_mput h j (some i)
theorem nd_putAll : ∀ (L M : Mp), (keysOf M).Nodup → (keysOf (putAll M L)).Nodup
  | [], _, h => h
  | e :: r, M, h => nd_putAll r (put1 M e) (nd_put1 h e)
theorem put1_len (M : Mp) (e : Str × Option Int) : (put1 M e).length ≤ M.length + 1 := by
  obtain ⟨j, v⟩ := e
  cases v with
  | none => exact Nat.le_succ_of_le (List.length_filter_le _ _)
  | some i => exact mput_len M j (some i)
theorem keys_iff (M : Mp) (k : Str) : k ∈ keysOf M ↔ (mget M k).isSome = true := by
  constructor
  · intro h
    obtain ⟨v, hv⟩ := mget_mem h
    rw [hv]
    rfl
  · intro h
    by_cases c : k ∈ keysOf M
    · exact c
    · rw [mget_no c] at h
      cases h
/-- rows: numbers for different keys among some -/
structure Rk (ks : List Str) (M : Mp) : Prop where
  nd : (keysOf M).Nodup
  sm : ∀ k v, mget M k = some v → v.isSome = true
  sub : ∀ k ∈ keysOf M, k ∈ ks
theorem Rk.len {ks : List Str} {M : Mp} (h : Rk ks M) (hk : ks.length = 4) : M.length ≤ 4 := by
  have h1 := len_sub _ _ h.nd h.sub
  have : (keysOf M).length = M.length := by unfold keysOf; rw [List.length_map]
  omega
theorem Rk.put {ks : List Str} {M L : Mp} (h : Rk ks M) (hn : (keysOf L).Nodup) (hs : ∀ k ∈ keysOf L, k ∈ ks) : Rk ks (putAll M L) := by
  refine ⟨nd_putAll L M h.nd, fun k v hv => ?_, fun k hk => ?_⟩
  · rw [mget_putAll L M k hn] at hv
    cases q : mget L k with
    | none => rw [q] at hv; exact h.sm k v hv
    | some w =>
      rw [q] at hv
      cases w with
      | none => cases hv
      | some i => cases hv; rfl
  · rw [keys_iff, mget_putAll L M k hn] at hk
    cases q : mget L k with
    | none =>
      rw [q] at hk
      exact h.sub k ((keys_iff M k).mpr hk)
    | some w => exact hs k ((keys_iff L k).mpr (by rw [q]; rfl))
theorem asc_nodup {L : Mp} (h : (keysOf L).Pairwise ltS) : (keysOf L).Nodup := by
  refine List.Pairwise.imp ?_ h
  intro a b q e
  exact ltS_irrefl b (by rw [e] at q; exact q)
def nk (L : Mp) (e : Str × Option Int) : Bool := !decide (e.1 ∈ keysOf L)
/-- what is sorted out of rows and writes -/
def joinP (B L : Mp) : Mp := B.filter (nk L) ++ L.filter fun e => e.2.isSome
theorem mem_mget {L : Mp} (h : (keysOf L).Nodup) {e : Str × Option Int} (he : e ∈ L) : mget L e.1 = some e.2 := by
  induction L with
  | nil => cases he
  | cons a r ih =>
    have hn2 := List.nodup_cons.mp (show (a.1 :: keysOf r).Nodup from h)
    rw [mget_cons]
    rcases List.mem_cons.mp he with q | q
    · rw [q, if_pos rfl]
    · have : ¬ a.1 = e.1 := fun z => hn2.1 (z ▸ List.mem_map.mpr ⟨e, q, rfl⟩)
      rw [if_neg this]
      exact ih hn2.2 q
theorem mget_in {L : Mp} {k : Str} {v : Option Int} (h : mget L k = some v) : (k, v) ∈ L := by
  unfold mget at h
  cases z : L.find? fun kv => decide (kv.1 = k) with
  | none => rw [z] at h; cases h
  | some y =>
    rw [z] at h
    have e1 : y.1 = k := by simpa using List.find?_some z
    have e2 : y.2 = v := Option.some.inj h
    have := List.mem_of_find?_eq_some z
    rw [← e1, ← e2]
    exact this
theorem join_srt {M B L J : Mp} (hB : Srt M B) (hL : (keysOf L).Pairwise ltS) (hp : J.Perm (joinP B L)) (ha : (keysOf J).Pairwise ltS) : Srt (putAll M L) J := by
  have ndL := asc_nodup hL
  have ndB := asc_nodup hB.asc
  have mem : ∀ e, e ∈ J ↔ (e ∈ B ∧ e.1 ∉ keysOf L) ∨ (e ∈ L ∧ e.2.isSome = true) := fun e => by
    rw [hp.mem_iff]
    unfold joinP
    rw [List.mem_append, List.mem_filter, List.mem_filter]
    simp [nk]
  have val : ∀ e ∈ J, mget (putAll M L) e.1 = some e.2 := fun e he => by
    rw [mget_putAll L M e.1 ndL]
    rcases (mem e).mp he with ⟨h1, h2⟩ | ⟨h1, h2⟩
    · rw [mget_no h2]
      exact hB.val e h1
    · rw [mem_mget ndL h1]
      cases q : e.2 with
      | none => rw [q] at h2; cases h2
      | some i => rfl
  refine ⟨ha, fun k => ⟨fun hk => ?_, fun hk => ?_⟩, val⟩
  · obtain ⟨e, he, rfl⟩ := List.mem_map.mp hk
    rw [keys_iff, val e he]
    rfl
  · rw [keys_iff, mget_putAll L M k ndL] at hk
    cases q : mget L k with
    | none =>
      rw [q] at hk
      obtain ⟨e, he, rfl⟩ := List.mem_map.mp ((hB.mem k).mpr ((keys_iff M k).mpr hk))
      exact List.mem_map.mpr ⟨e, (mem e).mpr (.inl ⟨he, fun z => by
        have := (keys_iff L e.1).mp z
        rw [q] at this
        cases this⟩), rfl⟩
    | some w =>
      rw [q] at hk
      cases w with
      | none => cases hk
      | some i => exact List.mem_map.mpr ⟨(k, some i), (mem _).mpr (.inr ⟨mget_in q, rfl⟩), rfl⟩
def sp_put_rows (T : Env K mg w) : Sp := fun vs H Q E => ∃ (d w : Addr) (as : List Addr) (M L : Mp), vs = [.ref d, .ref w] ∧ H d = some (.dK (toK M)) ∧ WL H w as L ∧ M.length ≤ 100 ∧ L.length ≤ 100 ∧ ∀ p H', Same H H' → H p = none → H' p = some (.dK (toK (putAll M L))) → Q (.ref p) H'
theorem ok_put_rows (T : Env K mg w) : FnOk P w K mg base (L2.CX P w) 1 T.a_put_rows T.d_put_rows ["rows", "writes"] (sp_put_rows T) := by
  refine T.F_put_rows.okX sc_put_rows (fun vs H Q E h => by obtain ⟨_, _, _, _, _, rfl, _⟩ := h; rfl) (fun cdv A outer s H vs Q E hr h => ?_)
  obtain ⟨d, w, as, M, L, rfl, hD, hW, hMl, hLl, h1⟩ := h
  refine ⟨_, (pss_cons (ps_set (i := 2) sc_put_rows.nd rfl (Or.inl rfl) (pe_callTy call_dictD (by rfl) T.z_dict (by decide +kernel) (pa_cons (pv 0) pa_nil)))
      (pss_cons (ps_for (passes_of rfl) rfl (pi_tup (pv 1)) (pg_tup rfl (pgs_cons (pg_name (i := 3) sc_put_rows.nd rfl (Or.inl rfl)) (pgs_cons (pg_name (i := 4) sc_put_rows.nd rfl (Or.inl rfl)) pgs_nil))) (pss_one (ps_if (pt_cmpR op_isN (pv 4) pe_non (nomark _)) (pss_one (ps_expr (pe_dpop2 (pv 2) (pv 3) pe_non ⟨rfl, rfl, rfl, rfl⟩))) (pss_one (ps_dput (hu_of hr) (pv 2) (pv 3) (pv 4) rfl)))))
      (pss_one (ps_ret (pv 2))))), ?_⟩
  refine ⟨_, rfl, d, _, rfl, .inl hD, fun p np => ?_⟩
  have s1 := same_new (o := .dK (toK M)) np
  have hp1 : upd H p (.dK (toK M)) p = some (.dK (toK M)) := upd_same
  show tSeq _ _ _ _ (upd H p (.dK (toK M)))
  generalize upd H p (.dK (toK M)) = H1 at s1 hp1
  refine ⟨_, rfl, w, rfl, ⟨_, SqT.of (s1 _ _ hW.at_)⟩, ?_⟩
  refine for_tup (K := K) (a := w) (xs := as.map V.ref) (fun i σ H' => ∃ v3 v4, ∃ Mi : Mp, σ = [some (.ref d), some (.ref w), some (.ref p), v3, v4] ∧ Same H H' ∧ H' p = some (.dK (toK Mi)) ∧ Mi = putAll M (L.take i) ∧ Mi.length ≤ M.length + i) ⟨none, none, M, rfl, s1, hp1, rfl, Nat.le_refl _⟩ (fun i σ H' _ ⟨_, _, _, _, s, _⟩ => SqT.of (s _ _ hW.at_)) ?_ ?_
  · rintro i x σ H' hx ⟨v3, v4, Mi, rfl, sA, hp, hm, hml⟩
    obtain ⟨b, hb, rfl⟩ := mem_rf hx
    obtain ⟨e, he, hE⟩ := (hW.same sA).each i b hb
    have hi : i < L.length := (List.getElem?_eq_some_iff.mp he).1
    have hput : put1 Mi e = putAll M (L.take (i + 1)) := by
      rw [hm]
      unfold putAll
      rw [take_succ he, List.foldl_append]
      rfl
    have hlen := put1_len Mi e
    refine ⟨b, _, rfl, SqT.of hE, rfl, _, _, rfl, _, _, rfl, rfl, ?_⟩
    obtain ⟨k, v⟩ := e
    cases v with
    | none =>
      refine ⟨_, rfl, rfl, _, rfl, ifT (by simp [oV]) ?_⟩
      refine ⟨_, rfl, p, rfl, .inl ⟨_, .inl hp⟩, _, rfl, toK Mi, Sum.inr k, hp, rfl, fun v' hv' => ?_, fun hv' => ?_⟩
      · rw [toK_drop]
        exact ⟨_, _, _, rfl, same_mut sA np, upd_same, hput, Nat.le_trans hlen (by omega)⟩
      · refine ⟨_, _, Mi, rfl, sA, hp, ?_, by omega⟩
        rw [← hput]
        have hk : mget Mi k = none := by
          rw [toK_get] at hv'
          cases q : mget Mi k with
          | none => rfl
          | some z => rw [q] at hv'; cases hv'
        refine (List.filter_eq_self.mpr fun a ha => ?_).symm
        have : a.1 ≠ k := fun q => mget_none hk (List.mem_map.mpr ⟨a, ha, q⟩)
        simpa using this
    | some j =>
      refine ⟨_, rfl, rfl, _, rfl, ifF (by simp [oV]) ?_⟩
      refine ⟨_, rfl, _, rfl, _, rfl, p, _, rfl, dput_at hp (by omega) k (some j), ?_⟩
      exact ⟨_, _, _, rfl, same_mut sA np, upd_same, hput, Nat.le_trans hlen (by omega)⟩
  · rintro σ H' ⟨v3, v4, Mi, rfl, sA, hp, hm, hml⟩
    rw [List.length_map, hW.len, List.take_length] at hm
    rw [hm] at hp
    exact ⟨_, rfl, h1 p H' sA np hp⟩
def sp__law_listed (T : Env K mg w) : Sp := fun vs H Q E => ∃ (d : Addr) (M : Mp), vs = [.ref d] ∧ H d = some (.dK (toK M)) ∧ M.length ≤ 60 ∧ (keysOf M).Nodup ∧ ∀ p as L H', Same H H' → H p = none → Srt M L → L.length ≤ 60 → GL H' p as L → Q (.ref p) H'
theorem ok__law_listed (T : Env K mg w) : FnOk P w K mg base (L2.CX P w) 1 T.a__law_listed T.d__law_listed ["rows"] (sp__law_listed T) := by
  refine T.F__law_listed.okX sc__law_listed (fun vs H Q E h => by obtain ⟨_, _, rfl, _⟩ := h; rfl) (fun cdv A outer s H vs Q E hr h => ?_)
  obtain ⟨d, M, rfl, hD, hMl, hn, h1⟩ := h
  refine ⟨_, (pss_one (ps_ret (pe_lc (own := [("key", 1)]) (by rfl) sc__law_listed.nd (pi_list (pe_callB (call_sortedD rfl) (by rfl) T.z_sorted (by decide +kernel) (pa_cons (pv 0) pa_nil))) (blkOk_by (own := [("key", 1)]) (N := ["rows", "key"]) (sc := defScope s__law_listed) (by decide +kernel)) (fun _ _ _ _ _ => (pg_name (i := 1) sc__law_listed.nd rfl (Or.inl rfl))) (fun _ _ _ _ _ => pts_nil) (fun _ _ _ _ _ => (pe_tup (pa_cons (pv 1) (pa_cons (pe_dget (hu_of hr) (pv 0) (pv 1) (fun _ _ => rfl)) pa_nil))))))), ?_⟩
  refine ⟨_, rfl, d, _, keysOf M, rfl, .inl hD, toK_keys M, (by unfold keysOf; rw [List.length_map]; omega), fun ys p hp hs np => ⟨p, rfl, ⟨_, SqL.of upd_same⟩, fun D hD2 => ?_⟩⟩
  have hyl : ys.length ≤ 60 := by
    rw [hp.length_eq]
    unfold keysOf
    rw [List.length_map]
    exact hMl
  have hsrt := srtOf_ok hn hp hs
  have s1 := same_new (o := .lst (ys.map V.str)) np
  have hp1 := upd_same (H := H) (a := p) (o := HO.lst (ys.map V.str))
  generalize upd H p (.lst (ys.map V.str)) = H1 at s1 hp1 hD2
  refine lc_list (K := K) (a := p) (xs := ys.map V.str) (fun i H' => Same H1 H' ∧ ∃ as, GL H' D as (srtOf M (ys.take i))) ⟨same_new hD2, [], upd_same, rfl, fun j a h => by simp at h⟩ (fun i H' _ h => SqL.of (h.1 _ _ hp1)) ?_ ?_
  · rintro i x H' hx ⟨sB, as, hL⟩
    obtain ⟨y, hy, rfl⟩ := mem_str hx
    have hi : i < ys.length := (List.getElem?_eq_some_iff.mp hy).1
    obtain ⟨v, hv⟩ := mget_mem (hp.mem_iff.mp (List.mem_of_getElem? hy))
    have hD' := sB _ _ (s1 _ _ hD)
    refine ⟨rfl, yes_if ⟨_, rfl, _, rfl, _, rfl, d, oV v, rfl, (by have := dget_at hD' y; rw [hv] at this; exact this), (by show 2 ≤ sizeLine; decide), fun z nz => ?_⟩⟩
    have sz := same_new (o := .tup [.str y, oV v]) nz
    refine ⟨_, sz _ _ hL.at_, szl (by rw [List.length_map, hL.len]; unfold srtOf; rw [List.length_map, List.length_take]; omega), same_mut (sB.trans sz) hD2, as ++ [z], ?_⟩
    rw [take_succ hy]
    unfold srtOf
    rw [List.map_append]
    show GL _ D (as ++ [z]) (srtOf M (ys.take i) ++ [(y, (mget M y).getD none)])
    rw [hv]
    exact hL.push sz upd_same
  · rintro H' ⟨sB, as, hL⟩
    rw [List.length_map, List.take_length] at hL
    exact h1 D as (srtOf M ys) H' (s1.trans sB) (s1.free hD2) hsrt (by unfold srtOf; rw [List.length_map]; exact hyl) hL
def shT : Nat → Bool := fun i => i == 0
noncomputable def kyOf (H : Hp) : V → List (Int ⊕ List Nat)
  | .ref t => match H t with
    | some (.tup [.str s, .int i]) => [.inr s.cps.toList, .inl i]
    | _ => []
  | _ => []
theorem kyOf_at {H : Hp} {t : Addr} {s : Str} {i : Int} (h : H t = some (.tup [.str s, .int i])) : kyOf H (.ref t) = [.inr s.cps.toList, .inl i] := by
  show (match H t with
    | some (.tup [.str s, .int i]) => [Sum.inr s.cps.toList, Sum.inl i]
    | _ => []) = _
  rw [h]
theorem ky_lt {a b : Str} {i j : Int} (h : PyProof.Rows.lexLt PyProof.Rows.itemOrd [Sum.inr b.cps.toList, Sum.inl j] [Sum.inr a.cps.toList, Sum.inl i] = false) : ¬ ltS b a := by
  have h1 := (PyProof.Rows.lex_false.mp h).1
  intro q
  have h2 : PyProof.Rows.itemOrd.blt (Sum.inr b.cps.toList) (Sum.inr a.cps.toList) = true := decide_eq_true q
  rw [h2] at h1
  cases h1
noncomputable def rdOf (H : Hp) : V → Str × Option Int
  | .ref t => match H t with
    | some (.tup [.str s, .int i]) => (s, some i)
    | _ => default
  | _ => default
def adOf : V → Addr
  | .ref t => t
  | _ => 0
theorem rdOf_at {H : Hp} {t : Addr} {s : Str} {i : Int} (h : H t = some (.tup [.str s, .int i])) : rdOf H (.ref t) = (s, some i) := by
  show (match H t with
    | some (.tup [.str s, .int i]) => (s, some i)
    | _ => default) = _
  rw [h]
theorem nk_one {L : Mp} {e : Str × Option Int} (h : e.1 ∉ keysOf L) : [e].filter (nk L) = [e] := by
  rw [List.filter_cons, if_pos (by unfold nk; rw [decide_eq_false h]; rfl)]
  rfl
theorem nk_no {L : Mp} {e : Str × Option Int} (h : e.1 ∈ keysOf L) : [e].filter (nk L) = [] := by
  rw [List.filter_cons, if_neg (by unfold nk; rw [decide_eq_true h]; decide)]
  rfl
theorem join_nd {B L : Mp} (hB : (keysOf B).Nodup) (hL : (keysOf L).Nodup) : (keysOf (joinP B L)).Nodup := by
  unfold keysOf joinP at *
  rw [List.map_append]
  refine List.nodup_append.mpr ⟨(List.filter_sublist.map _).nodup hB, (List.filter_sublist.map _).nodup hL, fun a ha b hb => ?_⟩
  obtain ⟨e, he, rfl⟩ := List.mem_map.mp ha
  obtain ⟨f, hf, rfl⟩ := List.mem_map.mp hb
  have h1 := (List.mem_filter.mp he).2
  unfold nk at h1
  have h2 : e.1 ∉ keysOf L := by simpa using h1
  exact fun q => h2 (q ▸ List.mem_map.mpr ⟨f, (List.mem_filter.mp hf).1, rfl⟩)
def sp__law_joined (T : Env K mg w) : Sp := fun vs H Q E => ∃ (b w : Addr) (bs ws : List Addr) (B L : Mp), vs = [.ref b, .ref w] ∧ GL H b bs B ∧ WL H w ws L ∧ B.length ≤ 60 ∧ L.length ≤ 60 ∧ (keysOf L).Pairwise ltS ∧ (keysOf B).Pairwise ltS ∧ (∀ e ∈ B, e.2.isSome = true) ∧ ∀ p as J H', Same H H' → J.Perm (joinP B L) → (keysOf J).Pairwise ltS → GL H' p as J → Q (.ref p) H'
theorem ok__law_joined (T : Env K mg w) : FnOk P w K mg base (L2.CX P w) 1 T.a__law_joined T.d__law_joined ["before", "writes"] (sp__law_joined T) := by
  refine T.F__law_joined.okX sc__law_joined (fun vs H Q E h => by obtain ⟨_, _, _, _, _, _, rfl, _⟩ := h; rfl) (fun cdv A outer s H vs Q E hr h => ?_)
  obtain ⟨b, w, bs, ws, B, L, rfl, hB, hW, hBl, hLl, hLa, hBa, hBs, h1⟩ := h
  refine ⟨_, (pss_cons (ps_setLc (i := 2) (own := [("pair", 3)]) (by rfl) sc__law_joined.nd rfl rfl (sw_true rfl rfl rfl (by decide +kernel)) (pi_list (pv 0)) (blkOk_by (own := [("pair", 3)]) (N := ["before", "writes", "pairs", "pair", "other"]) (sc := defScope s__law_joined) (by decide +kernel)) (fun _ _ _ _ _ => (pg_name (i := 3) sc__law_joined.nd rfl (Or.inl rfl))) (fun _ _ _ _ _ => (pts_one (pt_cmpR (opK (K := K) (r := (fun K => rIn K true)) rfl op_notIn_seq) (pe_ix (ixK (K := K) (r := rIxT) rfl ix_tup) (pv 3) pe_int (fun _ _ => rfl)) (pe_lc (own := [("other", 4)]) (by rfl) sc__law_joined.nd (pi_tupK (K := K) rfl (pv 1)) (blkOk_nf (own := [("other", 4)]) (N := ["before", "writes", "pairs", "pair", "other"]) (sc0 := defScope s__law_joined) (by decide +kernel) (by decide +kernel)) (fun _ _ _ _ _ => (pg_name (i := 4) sc__law_joined.nd rfl (Or.inl rfl))) (fun _ _ _ _ _ => pts_nil) (fun _ _ _ _ _ => (pe_ix (ixK (K := K) (r := rIxT) rfl ix_tup) (pv 4) pe_int (fun _ _ => rfl)))) rfl))) (fun _ _ _ _ _ => (pv 3)))
      (pss_one (ps_ret (pe_callB (cr_sortTx (shape := shT)) (by rfl) T.z_sorted (by decide +kernel) (pa_cons (pe_op op_cat (pv 2) (pe_lc (own := [("pair", 3)]) (by rfl) sc__law_joined.nd (pi_tup (pv 1)) (blkOk_by (own := [("pair", 3)]) (N := ["before", "writes", "pairs", "pair", "other"]) (sc := defScope s__law_joined) (by decide +kernel)) (fun _ _ _ _ _ => (pg_name (i := 3) sc__law_joined.nd rfl (Or.inl rfl))) (fun _ _ _ _ _ => (pts_one (pt_cmpR op_notN (pe_ix (ixK (K := K) (r := rIxT) rfl ix_tup) (pv 3) pe_int (fun _ _ => rfl)) pe_non (nomark _)))) (fun _ _ _ _ _ => (pv 3)))) pa_nil))))), ?_⟩
  have hkl : (keysOf L).length = L.length := by unfold keysOf; rw [List.length_map]
  refine ⟨_, rfl, b, rfl, ⟨_, SqL.of hB.at_⟩, fun D hD => ?_⟩
  refine lc_list (K := K) (a := b) (xs := bs.map V.ref) (fun i H' => Same H H' ∧ ∃ as, GL H' D as ((B.take i).filter (nk L))) ⟨same_new hD, [], upd_same, rfl, fun j a h => by simp at h⟩ (fun i H' _ h => SqL.of (h.1 _ _ hB.at_)) ?_ ?_
  · rintro i x H' hx ⟨sA, as, hG⟩
    obtain ⟨q, hq, rfl⟩ := mem_rf hx
    obtain ⟨e, he, hE⟩ := (hB.same sA).each i q hq
    have hW1 := hW.same sA
    have hasl : as.length ≤ 60 := by
      rw [hG.len]
      have := List.length_filter_le (nk L) (B.take i)
      rw [List.length_take] at this
      omega
    refine ⟨rfl, _, rfl, q, _, _, .str e.1, rfl, rfl, SqT.of hE, atI_nat (j := 0) rfl, _, rfl, w, rfl, ⟨_, SqT.of hW1.at_⟩, fun D2 hD2 => ?_⟩
    refine lc_tup (K := K) (a := w) (xs := ws.map V.ref) (fun i HX => Same H' HX ∧ HX D2 = some (.lst (((keysOf L).take i).map V.str))) ⟨same_new hD2, upd_same⟩ (fun i HX _ h => SqT.of (h.1 _ _ hW1.at_)) ?_ ?_
    · rintro j x HX hx ⟨sB, hDD⟩
      obtain ⟨y, hy, rfl⟩ := mem_rf hx
      obtain ⟨e2, he2, hE2⟩ := (hW1.same sB).each j y hy
      refine ⟨rfl, yes_if ⟨_, rfl, y, _, _, .str e2.1, rfl, rfl, SqT.of hE2, atI_nat (j := 0) rfl, _, hDD, szl (by rw [List.length_map, List.length_take]; omega), same_mut sB hD2, ?_⟩⟩
      rw [take_succ (show (keysOf L)[j]? = some e2.1 by unfold keysOf; rw [List.getElem?_map, he2]; rfl), upd_same, List.map_append]
      rfl
    · rintro H4 ⟨s4, hDD⟩
      rw [List.length_map, hW.len, ← hkl, List.take_length] at hDD
      refine ⟨D2, _, rfl, .inl (SqL.of hDD), rfl, flat_strs _, _, rfl, ?_⟩
      rw [inV_str]
      by_cases c : e.1 ∈ keysOf L
      · refine ifF (by rw [decide_eq_true c]; rfl) ⟨sA.trans s4, as, ?_⟩
        rw [take_succ he, List.filter_append, nk_no c, List.append_nil]
        exact hG.same s4
      · refine ifT (by rw [decide_eq_false c]; rfl) ⟨_, rfl, _, s4 _ _ hG.at_, szl (by rw [List.length_map]; omega), same_mut (sA.trans s4) hD, as ++ [q], ?_⟩
        rw [take_succ he, List.filter_append, nk_one c]
        exact hG.push s4 (k := e.1) (v := e.2) (s4 _ _ hE)
  rintro H1 ⟨s1, as1, hG1⟩
  rw [List.length_map, hB.len, List.take_length] at hG1
  have hW1 := hW.same s1
  refine ⟨_, rfl, _, rfl, w, rfl, ⟨_, SqT.of hW1.at_⟩, fun D2 hD2 => ?_⟩
  refine lc_tup (K := K) (a := w) (xs := ws.map V.ref) (fun i H' => Same H1 H' ∧ ∃ as, GL H' D2 as ((L.take i).filter fun e => e.2.isSome)) ⟨same_new hD2, [], upd_same, rfl, fun j a h => by simp at h⟩ (fun i H' _ h => SqT.of (h.1 _ _ hW1.at_)) ?_ ?_
  · rintro i x H' hx ⟨sA, as, hG⟩
    obtain ⟨q, hq, rfl⟩ := mem_rf hx
    obtain ⟨e, he, hE⟩ := (hW1.same sA).each i q hq
    have hasl : as.length ≤ 60 := by
      rw [hG.len]
      have := List.length_filter_le (fun e : Str × Option Int => e.2.isSome) (L.take i)
      rw [List.length_take] at this
      omega
    refine ⟨rfl, _, rfl, q, _, _, oV e.2, rfl, rfl, SqT.of hE, atI_nat (j := 1) rfl, rfl, _, rfl, ?_⟩
    obtain ⟨k, v⟩ := e
    cases v with
    | none =>
      refine ifF (by simp [oV]) ⟨sA, as, ?_⟩
      rw [take_succ he, List.filter_append]
      show GL _ _ _ (_ ++ [])
      rw [List.append_nil]
      exact hG
    | some n =>
      refine ifT (by simp [oV]) ⟨_, rfl, _, hG.at_, szl (by rw [List.length_map]; omega), same_mut sA hD2, as ++ [q], ?_⟩
      rw [take_succ he, List.filter_append]
      exact hG.push (Same.refl _) (k := k) (v := some n) hE
  rintro H2 ⟨s2, as2, hG2⟩
  rw [List.length_map, hW.len, List.take_length] at hG2
  have hG1' := hG1.same s2
  have hjl : (as1 ++ as2).length ≤ 200 := by
    rw [List.length_append, hG1.len, hG2.len]
    have h3 := List.length_filter_le (nk L) B
    have h4 := List.length_filter_le (fun e : Str × Option Int => e.2.isSome) L
    omega
  refine ⟨_, _, _, _, rfl, rfl, hG1'.at_, hG2.at_, szle (by rw [List.length_map, List.length_map, ← List.length_append]; omega), fun p np => ?_⟩
  have s3 := same_new (o := .lst (as1.map V.ref ++ as2.map V.ref)) np
  have hGJ : GL (upd H2 p (.lst (as1.map V.ref ++ as2.map V.ref))) p (as1 ++ as2) (joinP B L) := by
    refine ⟨by rw [upd_same, List.map_append], by rw [List.length_append, hG1.len, hG2.len]; unfold joinP; rw [List.length_append], fun j t ht => ?_⟩
    unfold joinP
    by_cases c : j < as1.length
    · rw [List.getElem?_append_left c] at ht
      obtain ⟨e, g1, g2⟩ := hG1'.each j t ht
      exact ⟨e, by rw [List.getElem?_append_left (by rw [← hG1.len]; exact c)]; exact g1, s3 _ _ g2⟩
    · rw [List.getElem?_append_right (by omega)] at ht
      obtain ⟨e, g1, g2⟩ := hG2.each _ t ht
      exact ⟨e, by rw [List.getElem?_append_right (by rw [← hG1.len]; omega), ← hG1.len]; exact g1, s3 _ _ g2⟩
  have hs1 : ∀ e ∈ joinP B L, ∃ n, e.2 = some n := fun e he => by
    rcases List.mem_append.mp he with q | q
    · exact Option.isSome_iff_exists.mp (hBs e (List.mem_filter.mp q).1)
    · exact Option.isSome_iff_exists.mp (List.mem_filter.mp q).2
  have hndJ : (keysOf (joinP B L)).Nodup := join_nd (asc_nodup hBa) (asc_nodup hLa)
  generalize upd H2 p (.lst (as1.map V.ref ++ as2.map V.ref)) = H3 at s3 hGJ
  have hat : ∀ t ∈ as1 ++ as2, ∃ k n, H3 t = some (.tup [.str k, .int n]) := fun t ht => by
    obtain ⟨j, hj, he⟩ := List.getElem_of_mem ht
    obtain ⟨e, g1, g2⟩ := hGJ.each j t (by rw [List.getElem?_eq_getElem hj, he])
    obtain ⟨n, hn⟩ := hs1 e (List.mem_of_getElem? g1)
    exact ⟨e.1, n, by rw [g2, hn]; rfl⟩
  have hrd : (as1 ++ as2).map (fun t => rdOf H3 (V.ref t)) = joinP B L := by
    refine List.ext_getElem? fun j => ?_
    rw [List.getElem?_map]
    cases q : (as1 ++ as2)[j]? with
    | none =>
      have := List.getElem?_eq_none_iff.mp q
      exact (List.getElem?_eq_none (by rw [← hGJ.len]; exact this)).symm
    | some t =>
      obtain ⟨e, g1, g2⟩ := hGJ.each j t q
      obtain ⟨n, hn⟩ := hs1 e (List.mem_of_getElem? g1)
      rw [g1]
      show some (rdOf H3 (V.ref t)) = some e
      obtain ⟨k, v⟩ := e
      cases hn
      rw [rdOf_at g2]
  refine ⟨p, (as1 ++ as2).map V.ref, kyOf H3, rfl, SqL.of hGJ.at_, fun x hx => ?_, fun zs q hz hs nq => ?_⟩
  · obtain ⟨t, ht, rfl⟩ := List.mem_map.mp hx
    obtain ⟨k, n, h⟩ := hat t ht
    exact ⟨t, _, rfl, h, by rw [kyOf_at h]; exact .str rfl (.int rfl (.nil _)), by simp⟩
  · have hza : ∀ z ∈ zs, ∃ t k n, z = V.ref t ∧ H3 t = some (.tup [.str k, .int n]) := fun z h => by
      obtain ⟨t, ht, rfl⟩ := List.mem_map.mp (hz.mem_iff.mp h)
      obtain ⟨k, n, h2⟩ := hat t ht
      exact ⟨t, k, n, rfl, h2⟩
    have hperm : (zs.map (rdOf H3)).Perm (joinP B L) := by
      have := hz.map (rdOf H3)
      rw [List.map_map] at this
      rw [← hrd]
      exact this
    have hnd : (keysOf (zs.map (rdOf H3))).Nodup := (hperm.map Prod.fst).nodup_iff.mpr hndJ
    have hzz : zs = (zs.map adOf).map V.ref := by
      rw [List.map_map]
      conv => lhs; rw [← List.map_id zs]
      exact List.map_congr_left fun z h => by
        obtain ⟨t, _, _, rfl, _⟩ := hza z h
        rfl
    have hpw : zs.Pairwise fun x y => ltS (rdOf H3 x).1 (rdOf H3 y).1 := by
      have hnd2 : zs.Pairwise fun x y => (rdOf H3 x).1 ≠ (rdOf H3 y).1 := by
        have h5 := hnd
        unfold keysOf List.Nodup at h5
        rw [List.map_map, List.pairwise_map] at h5
        exact h5
      refine List.Pairwise.imp_of_mem ?_ (hs.and hnd2)
      intro x y hx hy h
      obtain ⟨t, k, n, rfl, h2⟩ := hza x hx
      obtain ⟨t', k', n', rfl, h3⟩ := hza y hy
      obtain ⟨h4, h5⟩ := h
      rw [kyOf_at h2, kyOf_at h3] at h4
      rw [rdOf_at h2, rdOf_at h3] at h5 ⊢
      exact ltS_of (ky_lt h4) h5
    refine h1 q (zs.map adOf) (zs.map (rdOf H3)) _ (((s1.trans s2).trans s3).trans (same_new nq)) hperm ?_ ⟨by rw [upd_same, ← hzz], by rw [List.length_map, List.length_map], fun j t ht => ?_⟩
    · unfold keysOf
      rw [List.map_map, List.pairwise_map]
      exact hpw
    · rw [List.getElem?_map] at ht
      cases e : zs[j]? with
      | none => rw [e] at ht; cases ht
      | some z =>
        rw [e] at ht
        obtain ⟨t', k, n, rfl, h2⟩ := hza z (List.mem_of_getElem? e)
        have : t' = t := Option.some.inj ht
        subst this
        exact ⟨(k, some n), by rw [List.getElem?_map, e]; show some (rdOf H3 (V.ref t')) = _; rw [rdOf_at h2], same_new nq _ _ h2⟩
/-! alike and equal -/
theorem lk_pair {H : Hp} {a b : Addr} {k : Str} {v : Option Int} (ha : H a = some (.tup [.str k, oV v])) (hb : H b = some (.tup [.str k, oV v])) : Lk 1 H (.ref a) (.ref b) := by
  refine .inr ⟨a, b, _, _, rfl, rfl, .inr ⟨ha, hb⟩, rfl, by show 2 ≤ 1000; decide, fun j x y h1 h2 => ?_⟩
  rw [h1] at h2
  cases h2
  have hm := List.mem_of_getElem? h1
  simp only [List.mem_cons, List.not_mem_nil, or_false] at hm
  rcases hm with rfl | rfl
  · exact ⟨rfl, .str _⟩
  · refine ⟨rfl, ?_⟩
    cases v with
    | none => exact .non
    | some i => exact .int i
theorem lk_each {H : Hp} {as bs : List Addr} {L : Mp} (ha : ∀ (j : Nat) (a : Addr), as[j]? = some a → ∃ e, L[j]? = some e ∧ H a = some (.tup [.str e.1, oV e.2])) (hb : ∀ (j : Nat) (a : Addr), bs[j]? = some a → ∃ e, L[j]? = some e ∧ H a = some (.tup [.str e.1, oV e.2])) : ∀ (j : Nat) (x y : V), (as.map V.ref)[j]? = some x → (bs.map V.ref)[j]? = some y → Lk 1 H x y := by
  intro j x y h1 h2
  obtain ⟨a, ea, rfl⟩ := mem_rf h1
  obtain ⟨b, eb, rfl⟩ := mem_rf h2
  obtain ⟨e, g1, g2⟩ := ha j a ea
  obtain ⟨e', g3, g4⟩ := hb j b eb
  rw [g1] at g3
  cases g3
  exact lk_pair g2 g4
theorem lk_gl {H : Hp} {p q : Addr} {as bs : List Addr} {L : Mp} (hp : GL H p as L) (hq : GL H q bs L) (hl : L.length ≤ 1000) : Lk 2 H (.ref p) (.ref q) :=
  .inr ⟨p, q, _, _, rfl, rfl, .inl ⟨hp.at_, hq.at_⟩, by rw [List.length_map, List.length_map, hp.len, hq.len], by rw [List.length_map, hp.len]; exact hl, lk_each hp.each hq.each⟩
theorem lk_wl {H : Hp} {p q : Addr} {as bs : List Addr} {L : Mp} (hp : WL H p as L) (hq : WL H q bs L) (hl : L.length ≤ 1000) : Lk 2 H (.ref p) (.ref q) :=
  .inr ⟨p, q, _, _, rfl, rfl, .inr ⟨hp.at_, hq.at_⟩, by rw [List.length_map, List.length_map, hp.len, hq.len], by rw [List.length_map, hp.len]; exact hl, lk_each hp.each hq.each⟩
theorem lk_al {H : Hp} {p q : Addr} {r : Mp × Option Mp} (hp : AlAt H p r) (hq : AlAt H q r) (hl : r.1.length ≤ 1000) : Lk 3 H (.ref p) (.ref q) := by
  obtain ⟨g, w, gs, as, L, h1, h2, h3, h4, h5⟩ := hp.ex
  obtain ⟨g', w', gs', as', L', k1, k2, k3, k4, k5⟩ := hq.ex
  have e : L = L' := by
    cases q : r.2 with
    | none =>
      rw [q] at h5 k5
      have h5 : L = [] := h5
      have k5 : L' = [] := k5
      rw [h5, k5]
    | some C =>
      rw [q] at h5 k5
      exact srt_eq h5 k5
  subst e
  refine .inr ⟨p, q, _, _, rfl, rfl, .inr ⟨h1, k1⟩, rfl, by show 3 ≤ 1000; decide, fun j x y e1 e2 => ?_⟩
  match j with
  | 0 =>
    cases e1
    cases e2
    exact lk_gl h2 k2 hl
  | 1 =>
    cases e1
    cases e2
    exact lk_wl h3 k3 (by rw [← h3.len]; exact h4)
  | 2 =>
    cases e1
    cases e2
    exact .inl ⟨rfl, .bl _⟩
  | _ + 3 => cases e1
def dO : Option Int → PyData
  | none => .none
  | some i => .int i
theorem dp_oV {K : PySem.W.Frag} {H : Hp} (v : Option Int) : Dp K H (oV v) (dO v) := by
  cases v with
  | none => exact .non
  | some i => exact .int i
def dW (e : Str × Option Int) : PyData := .tuple [.str e.1, dO e.2]
def dL (L : Mp) : PyData := .list (L.map dW)
theorem GL.dp {K : PySem.W.Frag} {H : Hp} {p : Addr} {as : List Addr} {L : Mp} (h : GL H p as L) : Dp K H (.ref p) (dL L) :=
  .lst (SqL.of h.at_) (dpAll_of dW as L h.len fun j x hj => by
    obtain ⟨e, h1, h2⟩ := h.each j x hj
    exact ⟨e, h1, .tup (SqT.of h2) (.cons (.str _) (.cons (dp_oV _) .nil))⟩)
theorem dok_l {L : Mp} (h : ∀ e ∈ L, alT e.1) : Dok 2 (dL L) := by
  refine .list fun x hx => ?_
  obtain ⟨e, he, rfl⟩ := List.mem_map.mp hx
  refine .tup fun y hy => ?_
  simp only [List.mem_cons, List.not_mem_nil, or_false] at hy
  rcases hy with rfl | rfl
  · exact .str 0 (h e he)
  · cases e.2 with
    | none => exact .none 0
    | some i => exact .int 0 i
/-! the writes are about the program's keys -/
theorem keys_updC (C : Mp) (o : Op) (v : Option Int) (k : Str) (h : k ∈ keysOf (updC C o v)) : k ∈ keysOf C ∨ o.ck = some k := by
  unfold updC at h
  cases e : o.ck with
  | none => rw [e] at h; exact .inl h
  | some j =>
    rw [e] at h
    have h : k ∈ keysOf (mput C j (o.nv v)) := h
    rw [keys_mput] at h
    split at h
    · exact .inl h
    · rcases List.mem_append.mp h with q | q
      · exact .inl q
      · have : k = j := by simpa using q
        rw [this]
        exact .inr rfl
theorem run_keys (K0 : Mp) : ∀ (ops : List Op) (C D : Mp) (k : Str), runP K0 ops C = .done D → k ∈ keysOf D → k ∈ keysOf C ∨ k ∈ ops.filterMap Op.ck
  | [], C, D, k, h, hk => by
    cases h
    exact .inl hk
  | o :: r, C, D, k, h, hk => by
    have h : (match o.rk with | some k => (match val K0 C k with | none => Res.ask k | some v => if o.gu v = true then .quit else runP K0 r (updC C o v)) | none => if o.gu none = true then .quit else runP K0 r (updC C o none)) = .done D := h
    have go : ∀ v, runP K0 r (updC C o v) = .done D → k ∈ keysOf C ∨ k ∈ (o :: r).filterMap Op.ck := fun v hv => by
      rcases run_keys K0 r _ D k hv hk with q | q
      · rcases keys_updC C o v k q with z | z
        · exact .inl z
        · exact .inr (List.mem_filterMap.mpr ⟨o, List.mem_cons_self, z⟩)
      · obtain ⟨o', h1, h2⟩ := List.mem_filterMap.mp q
        exact .inr (List.mem_filterMap.mpr ⟨o', List.mem_cons_of_mem _ h1, h2⟩)
    cases e1 : o.rk with
    | none =>
      rw [e1] at h
      simp only at h
      split at h
      · cases h
      · exact go _ h
    | some k1 =>
      rw [e1] at h
      simp only at h
      cases e2 : val K0 C k1 with
      | none => rw [e2] at h; cases h
      | some w =>
        rw [e2] at h
        simp only at h
        split at h
        · cases h
        · exact go _ h
theorem alone_keys (M : Mp) (ops : List Op) : ∀ (n : Nat) (got : Mp), (alone M ops n got).1.length ≤ got.length + n ∧ ∀ C, (alone M ops n got).2 = some C → ∀ k ∈ keysOf C, k ∈ ops.filterMap Op.ck
  | 0, got => ⟨Nat.le_refl _, fun C h => by cases h⟩
  | n + 1, got => by
    cases q : runP (mm got) ops [] with
    | ask k =>
      have e : alone M ops (n + 1) got = alone M ops n (got ++ [(k, (mget M k).getD none)]) := by
        show (match runP (mm got) ops [] with | .ask k => alone M ops n (got ++ [(k, (mget M k).getD none)]) | .quit => (got, none) | .done C => (got, some C)) = _
        rw [q]
      rw [e]
      obtain ⟨h1, h2⟩ := alone_keys M ops n (got ++ [(k, (mget M k).getD none)])
      rw [List.length_append] at h1
      have h1 : _ ≤ got.length + 1 + n := h1
      exact ⟨by omega, h2⟩
    | quit =>
      have e : alone M ops (n + 1) got = (got, none) := by
        show (match runP (mm got) ops [] with | .ask k => alone M ops n (got ++ [(k, (mget M k).getD none)]) | .quit => (got, none) | .done C => (got, some C)) = _
        rw [q]
      rw [e]
      exact ⟨by show got.length ≤ _; omega, fun C h => by cases h⟩
    | done C =>
      have e : alone M ops (n + 1) got = (got, some C) := by
        show (match runP (mm got) ops [] with | .ask k => alone M ops n (got ++ [(k, (mget M k).getD none)]) | .quit => (got, none) | .done C => (got, some C)) = _
        rw [q]
      rw [e]
      refine ⟨by show got.length ≤ _; omega, fun D h k hk => ?_⟩
      have h : some C = some D := h
      cases h
      rcases run_keys _ _ _ _ k q hk with z | z
      · cases z
      · exact z
theorem ck_in {ks : List Str} {ops : List Op} (h : ∀ o ∈ ops, opIn ks o) {k : Str} (hk : k ∈ ops.filterMap Op.ck) : k ∈ ks := by
  obtain ⟨o, h1, h2⟩ := List.mem_filterMap.mp hk
  have := h o h1
  cases o with
  | read j => cases h2
  | put j n => cases h2; exact this
  | drop j => cases h2; exact this
  | add j n => cases h2; exact this
  | need j n => cases h2
  | equal j v => cases h2
  | copy a b => cases h2; exact this.2
theorem Rk.put1 {ks : List Str} {M : Mp} (h : Rk ks M) {k : Str} (hk : k ∈ ks) (i : Int) : Rk ks (mput M k (some i)) := by
  refine ⟨nodup_mput h.nd k _, fun j v hv => ?_, fun j hj => ?_⟩
  · rw [mget_mput] at hv
    split at hv
    · cases hv; rfl
    · exact h.sm j v hv
  · rw [keys_mput] at hj
    split at hj
    · exact h.sub j hj
    · rcases List.mem_append.mp hj with q | q
      · exact h.sub j q
      · have : j = k := by simpa using q
        rw [this]
        exact hk
theorem Lk.up : ∀ (n : Nat) {H : Hp} {x y : V}, Lk n H x y → Lk (n + 1) H x y
  | 0, _, _, _, h => .inl h
  | n + 1, H, x, y, h => by
    rcases h with h | ⟨p, q, xs, ys, h1, h2, h3, h4, h5, h6⟩
    · exact .inl h
    · exact .inr ⟨p, q, xs, ys, h1, h2, h3, h4, h5, fun j x' y' a b => (h6 j x' y' a b).up n⟩
def spLaw (K : PySem.W.Frag) : Sp := fun vs H Q _ => ∃ (a : Addr) (ns : List Int), vs = [.ref a] ∧ SqL K H a (ns.map V.int) ∧ ns.length ≤ 63 ∧ ∀ H', Q (.bl true) H'
def sp_law (T : Env K mg w) : Sp := spLaw K
theorem ok_law (T : Env K mg w) : FnOk P w K mg base CX0 9 T.a_law T.d_law ["script"] (sp_law T) := by
  refine T.F_law.ok sc_law (fun vs H Q E h => by obtain ⟨_, _, rfl, _⟩ := h; rfl) (fun cdv A outer s H vs Q E hr h => ?_)
  have hu64 := hu64_of hr
  obtain ⟨a, ns, rfl, hS, hlen, h1⟩ := h
  have hu64 := hu64_of hr
  have G__law_keys := ok__law_keys (P := P) (w := w) (base := base) T
  have G__law_draws := ok__law_draws (P := P) (w := w) (base := base) T
  have G__law_cell := ok__law_cell (P := P) (w := w) (base := base) T
  have G__law_program := ok__law_program (P := P) (w := w) (base := base) T
  have G__law_listed := ok__law_listed (P := P) (w := w) (base := base) T
  have G__law_alone := ok__law_alone (P := P) (w := w) (base := base) T
  have G_put_rows := ok_put_rows (P := P) (w := w) (base := base) T
  have G__law_shown := ok__law_shown (P := P) (w := w) (base := base) T
  have G__law_like := ok__law_like (P := P) (w := w) (base := base) T
  have G_run_alone := ok_run_alone (P := P) (w := w) (base := base) T
  have G__law_joined := ok__law_joined (P := P) (w := w) (base := base) T
  have G__law_like := G__law_like 3
  refine ⟨_, (pss_cons (ps_set (i := 1) sc_law.nd rfl (Or.inl rfl) (pe_call G__law_keys (hr.mono (by decide)) rfl T.g__law_keys T.F__law_keys.kp T.b__law_keys .nil passL (pa_cons (pe_call G__law_cell (hr.mono (by decide)) rfl T.g__law_cell T.F__law_cell.kp T.b__law_cell .nil passL (pa_cons (pv 0) (pa_cons pe_int pa_nil))) pa_nil)))
      (pss_cons (ps_set (i := 2) sc_law.nd rfl (Or.inl rfl) (pe_call G__law_draws (hr.mono (by decide)) rfl T.g__law_draws T.F__law_draws.kp T.b__law_draws .nil passL (pa_cons (pe_call G__law_cell (hr.mono (by decide)) rfl T.g__law_cell T.F__law_cell.kp T.b__law_cell .nil passL (pa_cons (pv 0) (pa_cons pe_int pa_nil))) (pa_cons pe_int (pa_cons pe_int pa_nil)))))
      (pss_cons (ps_set (i := 3) sc_law.nd rfl (Or.inl rfl) pe_dnewK)
      (pss_cons (ps_for PassesOwn.never rfl (pi_range1 rfl T.z_range (pa_cons pe_int pa_nil)) (pg_name (i := 4) sc_law.nd rfl (Or.inl rfl)) (pss_one (ps_if (pt_cmpR op_notN (pe_call G__law_shown (hr.mono (by decide)) rfl T.g__law_shown T.F__law_shown.kp T.b__law_shown .nil passL (pa_cons (pe_ix ix_list (pv 2) (pv 4) (fun _ _ => rfl)) pa_nil)) pe_non (nomark _)) (pss_one (ps_dput (hu_of hr) (pv 3) (pe_ix ix_list (pv 1) (pv 4) (fun _ _ => rfl)) (pe_call G__law_shown (hr.mono (by decide)) rfl T.g__law_shown T.F__law_shown.kp T.b__law_shown .nil passL (pa_cons (pe_ix ix_list (pv 2) (pv 4) (fun _ _ => rfl)) pa_nil)) rfl)) pss_nil)))
      (pss_cons (ps_for PassesOwn.never rfl (pi_range2 rfl T.z_range (pa_cons pe_int (pa_cons (pe_callB (call_min2 rfl) (by rfl) T.z_min (by decide +kernel) (pa_cons pe_int (pa_cons (pe_callB (call_max2 rfl) (by rfl) T.z_max (by decide +kernel) (pa_cons pe_int (pa_cons (pe_callB call_len (by rfl) T.z_len (by decide +kernel) (pa_cons (pv 0) pa_nil)) pa_nil))) pa_nil))) pa_nil))) (pg_name (i := 5) sc_law.nd rfl (Or.inl rfl)) (pss_cons (ps_set (i := 6) sc_law.nd rfl (Or.inl rfl) (pe_call G__law_program (hr.mono (by decide)) rfl T.g__law_program T.F__law_program.kp T.b__law_program .nil passL (pa_cons (pe_call G__law_cell (hr.mono (by decide)) rfl T.g__law_cell T.F__law_cell.kp T.b__law_cell .nil passL (pa_cons (pv 0) (pa_cons (pv 5) pa_nil))) (pa_cons (pv 1) pa_nil))))
      (pss_cons (ps_set (i := 7) sc_law.nd rfl (Or.inl rfl) (pe_call G__law_listed (hr.mono (by decide)) rfl T.g__law_listed T.F__law_listed.kp T.b__law_listed .nil passL (pa_cons (pv 3) pa_nil)))
      (pss_cons (ps_set (i := 8) sc_law.nd rfl (Or.inl rfl) (pe_call G__law_alone (hr.mono (by decide)) rfl T.g__law_alone T.F__law_alone.kp T.b__law_alone .nil passL (pa_cons (pv 3) (pa_cons (pv 6) pa_nil))))
      (pss_cons (ps_if (PW.pt (pw_or (pt_not (pt_val (pe_call G__law_like (hr.mono (by decide)) rfl T.g__law_like T.F__law_like.kp T.b__law_like .nil passL (pa_cons (pe_call G_run_alone (hr.mono (by decide)) rfl T.g_run_alone T.F_run_alone.kp T.b_run_alone .nil passL (pa_cons (pv 3) (pa_cons (pe_callTy call_list_of (by rfl) T.z_list (by decide +kernel) (pa_cons (pv 6) pa_nil)) pa_nil))) (pa_cons (pv 8) pa_nil))))) (pw_or1 (pt_cmpR (op_neD hu64) (pe_call G__law_listed (hr.mono (by decide)) rfl T.g__law_listed T.F__law_listed.kp T.b__law_listed .nil passL (pa_cons (pv 3) pa_nil)) (pv 7) (nomark _))))) (pss_one (ps_ret pe_bl)) pss_nil)
      (pss_cons (ps_set (i := 9) sc_law.nd rfl (Or.inl rfl) (pe_call G_put_rows (hr.mono (by decide)) rfl T.g_put_rows T.F_put_rows.kp T.b_put_rows .nil passL (pa_cons (pv 3) (pa_cons (pe_ix ix_tup (pv 8) pe_int (fun _ _ => rfl)) pa_nil))))
      (pss_cons (ps_if (PW.pt (pw_or (pt_not (pt_val (pe_callB call_isi (by rfl) T.z_isinstance (by decide +kernel) (pa_cons (pv 9) (pa_cons (pe_bltn (v := .ty "dict") (by rfl) T.z_dict (by decide +kernel) rfl) pa_nil))))) (pw_or1 (pt_not (pt_val (pe_call G__law_like (hr.mono (by decide)) rfl T.g__law_like T.F__law_like.kp T.b__law_like .nil passL (pa_cons (pe_call G__law_listed (hr.mono (by decide)) rfl T.g__law_listed T.F__law_listed.kp T.b__law_listed .nil passL (pa_cons (pv 9) pa_nil)) (pa_cons (pe_call G__law_joined (hr.mono (by decide)) rfl T.g__law_joined T.F__law_joined.kp T.b__law_joined .nil passL (pa_cons (pv 7) (pa_cons (pe_ix ix_tup (pv 8) pe_int (fun _ _ => rfl)) pa_nil))) pa_nil)))))))) (pss_one (ps_ret pe_bl)) pss_nil)
      (pss_cons (ps_dput (hu_of hr) (pv 9) pe_str pe_int rfl)
      (pss_cons (ps_if (pt_cmpR (op_neD hu64) (pe_call G__law_listed (hr.mono (by decide)) rfl T.g__law_listed T.F__law_listed.kp T.b__law_listed .nil passL (pa_cons (pv 3) pa_nil)) (pv 7) (nomark _)) (pss_one (ps_ret pe_bl)) pss_nil)
      (pss_cons (ps_set (i := 3) sc_law.nd rfl (Or.inl rfl) (pe_call G_put_rows (hr.mono (by decide)) rfl T.g_put_rows T.F_put_rows.kp T.b_put_rows .nil passL (pa_cons (pv 3) (pa_cons (pe_ix ix_tup (pv 8) pe_int (fun _ _ => rfl)) pa_nil))))
      (pss_one (ps_if (PW.pt (pw_or (pt_not (pt_val (pe_callB call_isi (by rfl) T.z_isinstance (by decide +kernel) (pa_cons (pv 3) (pa_cons (pe_bltn (v := .ty "dict") (by rfl) T.z_dict (by decide +kernel) rfl) pa_nil))))) (pw_or1 (pt_not (pt_val (pe_call G__law_like (hr.mono (by decide)) rfl T.g__law_like T.F__law_like.kp T.b__law_like .nil passL (pa_cons (pe_call G__law_listed (hr.mono (by decide)) rfl T.g__law_listed T.F__law_listed.kp T.b__law_listed .nil passL (pa_cons (pv 3) pa_nil)) (pa_cons (pe_call G__law_joined (hr.mono (by decide)) rfl T.g__law_joined T.F__law_joined.kp T.b__law_joined .nil passL (pa_cons (pv 7) (pa_cons (pe_ix ix_tup (pv 8) pe_int (fun _ _ => rfl)) pa_nil))) pa_nil)))))))) (pss_one (ps_ret pe_bl)) pss_nil))))))))))))
      (pss_one (ps_ret pe_bl))))))), ?_⟩
  refine ⟨_, rfl, a, ns, 0, rfl, hS, by decide, _, rfl, cell_nn ns 0, fun pk ks H1 s1 npk hkl hkk hK => ?_⟩
  refine ⟨_, rfl, a, ns, 1, rfl, s1.seq hS, by decide, _, 4, 1000, rfl, by decide, by decide, by decide, by decide, fun pf H2 s2 npf hF => ?_⟩
  have hDl : (draws (cell ns 1) (4 : Int).toNat 1000).length = 4 := draws_len _ _ _
  have hDm : ∀ d ∈ draws (cell ns 1) (4 : Int).toNat 1000, 0 ≤ d ∧ d < 1000 := draws_mem (by decide)
  generalize draws (cell ns 1) (4 : Int).toNat 1000 = D at hF hDl hDm
  have hK2 := s2 _ _ hK
  have s12 := s1.trans s2
  intro pr npr
  have s3 := s12.trans (same_new (o := .dK []) npr)
  have npr0 : H pr = none := s12.free npr
  have hF3 := same_new (o := .dK []) npr _ _ hF
  have hK3 := same_new (o := .dK []) npr _ _ hK2
  have hR3 : upd H2 pr (.dK []) pr = some (.dK (toK [])) := upd_same
  have prF : pf ≠ pr := ne_of_none hF npr
  have prK : pk ≠ pr := ne_of_none hK2 npr
  show tSeq _ _ _ _ (upd H2 pr (.dK []))
  generalize upd H2 pr (.dK []) = H3 at s3 hF3 hK3 hR3
  have rk0 : Rk ks [] := ⟨List.nodup_nil, fun k v h => (by cases h), fun k h => absurd h List.not_mem_nil⟩
  refine ⟨4, rfl, by decide, by decide, for_range (n := 4) (fun i σ H' => ∃ v4 M, σ = [some (.ref a), some (.ref pk), some (.ref pf), some (.ref pr), v4, none, none, none, none, none] ∧ Same H H' ∧ H' pf = some (.lst (D.map V.int)) ∧ H' pk = some (.lst (ks.map V.str)) ∧ H' pr = some (.dK (toK M)) ∧ Rk ks M) ⟨none, [], rfl, s3, hF3, hK3, hR3, rk0⟩ ?_ ?_⟩
  · rintro i σ H' hi ⟨v4, M, rfl, sA, hF4, hK4, hR4, hrk⟩
    have gi := hDm (D.getD i 0) (by
      rw [List.getD_eq_getElem?_getD, List.getElem?_eq_getElem (by omega)]
      exact List.getElem_mem _)
    obtain ⟨kj, hkj, hkm⟩ := at_str (ks := ks) (z := 0 + (i : Int)) (by omega) (by omega)
    have hMl := hrk.len hkl
    refine ⟨_, rfl, _, rfl, pf, _, _, _, rfl, rfl, SqL.of hF4, at_dd (D := D) i (by omega) (by omega), _, rfl, gi.1, gi.2, fun H5 s5 => ⟨rfl, _, rfl, ?_⟩⟩
    cases hv : shownV (D.getD i 0) with
    | none =>
      refine ifF (by simp [oV]) ?_
      exact ⟨_, M, rfl, sA.trans s5, s5 _ _ hF4, s5 _ _ hK4, s5 _ _ hR4, hrk⟩
    | some n =>
      refine ifT (by simp [oV]) ?_
      refine ⟨_, rfl, _, rfl, pf, _, _, _, rfl, rfl, SqL.of (s5 _ _ hF4), at_dd (D := D) i (by omega) (by omega), _, rfl, gi.1, gi.2, fun H6 s6 => ?_⟩
      have s56 := s5.trans s6
      have hR6 := s56 _ _ hR4
      rw [hv]
      refine ⟨_, rfl, _, rfl, _, rfl, pk, _, _, .str kj, rfl, rfl, SqL.of (s56 _ _ hK4), hkj, pr, _, rfl, dput_at hR6 (by omega) kj (some n), ?_⟩
      exact ⟨_, mput M kj (some n), rfl, same_mut (sA.trans s56) npr0, by rw [upd_ne prF]; exact s56 _ _ hF4, by rw [upd_ne prK]; exact s56 _ _ hK4, upd_same, hrk.put1 hkm n⟩
  rintro σ H4 ⟨v4, M, rfl, s4, hF4, hK4, hR4, hrk⟩
  clear hF4 hF3 hF prF
  refine ⟨_, rfl, _, _, rfl, .inl ⟨_, s4.seq hS, rfl⟩, _, _, rfl, _, _, rfl, ?_⟩
  rw [List.length_map]
  obtain ⟨n, hn, hn14⟩ : ∃ n : Nat, (if (if ((ns.length : Nat) : Int) > 3 then ((ns.length : Nat) : Int) else 3) < 14 then (if ((ns.length : Nat) : Int) > 3 then ((ns.length : Nat) : Int) else 3) else (14 : Int)) = (n : Int) ∧ n ≤ 14 := ⟨(if (if ((ns.length : Nat) : Int) > 3 then ((ns.length : Nat) : Int) else 3) < 14 then (if ((ns.length : Nat) : Int) > 3 then ((ns.length : Nat) : Int) else 3) else (14 : Int)).toNat, by split <;> split <;> omega, by split <;> split <;> omega⟩
  rw [hn]
  refine ⟨_, _, rfl, ⟨by decide, by decide, by omega, by omega⟩, ?_⟩
  refine for_range (n := (((n : Nat) : Int) - 2).toNat) (fun i σ H' => ∃ v4 v5 v6 v7 v8 v9 pr M, σ = [some (.ref a), some (.ref pk), some (.ref pf), some (.ref pr), v4, v5, v6, v7, v8, v9] ∧ Same H H' ∧ H' pk = some (.lst (ks.map V.str)) ∧ H' pr = some (.dK (toK M)) ∧ Rk ks M ∧ H pr = none) ⟨v4, none, none, none, none, none, pr, M, rfl, s4, hK4, hR4, hrk, npr0⟩ ?_ ?_
  rotate_left
  · rintro σ HA ⟨v4, v5, v6, v7, v8, v9, pr, M, rfl, sA, _⟩
    exact h1 _
  clear hR4 hrk hR3 npr prK npr0 v4 rk0 hK4 hK3
  rintro i σ HA hi ⟨v4, v5, v6, v7, v8, v9, pr, M, rfl, sA, hK, hR, hrk, npr⟩
  have hMl := hrk.len hkl
  refine ⟨_, rfl, _, rfl, a, ns, _, rfl, sA.seq hS, by omega, _, rfl, _, pk, ks, rfl, cell_nn _ _, SqL.of hK, hkl, hkk, fun pp as ops HB sB npp hpp hP hol hok => ?_⟩
  have hRB := sB _ _ hR
  have sAB := sA.trans sB
  refine ⟨_, rfl, pr, M, rfl, hRB, by omega, hrk.nd, fun pb bs B HC sC npb hsrt hBl hGB => ?_⟩
  have hRC := sC _ _ hRB
  have hppC := sC _ _ hpp
  have hPC := hP.same sC
  refine ⟨_, rfl, _, rfl, pr, pp, as, ops, M, rfl, hRC, hPC, hol, fun pd HD sD hAl => ?_⟩
  have hRD := sD _ _ hRC
  have hppD := sD _ _ hppC
  have hPD := hPC.same sD
  -- like(run_alone(rows, list(program)), due)
  refine ⟨_, rfl, _, rfl, pp, _, rfl, .inl (SqL.of hppD), fun pl npl => ?_⟩
  have sE := same_new (o := .lst (as.map V.ref)) npl
  have hRE := sE _ _ hRD
  have hPE : PAt K (upd HD pl (.lst (as.map V.ref))) pl as ops := ⟨.inl (SqL.of upd_same), (hPD.same sE).len, (hPD.same sE).each⟩
  have hAlE := hAl.same sE
  generalize upd HD pl (.lst (as.map V.ref)) = HE at sE hRE hPE hAlE
  refine ⟨pr, pl, as, ops, M, rfl, hRE, hPE, hol, fun px HF sF hAx => ?_⟩
  have hal := (alone_keys M ops 9 []).1
  have hal : (alone M ops 9 []).1.length ≤ 0 + 9 := hal
  have hkk2 := (alone_keys M ops 9 []).2
  refine ⟨_, rfl, V.ref px, V.ref pd, rfl, lk_al hAx (hAlE.same sF) (by omega), fun HG sG => ?_⟩
  have sAD := sAB.trans (sC.trans sD)
  have sDG := sE.trans (sF.trans sG)
  have hRG := sDG _ _ hRD
  refine ⟨_, rfl, ifF rfl ?_⟩
  have hBk : ∀ e ∈ B, alT e.1 := fun e he => (hkk e.1 (hrk.sub e.1 ((hsrt.mem e.1).mp (List.mem_map.mpr ⟨e, he, rfl⟩)))).1
  have hdk := dok_l hBk
  refine ⟨_, rfl, pr, M, rfl, hRG, by omega, hrk.nd, fun pb2 bs2 B2 HH sH npb2 hsrt2 hBl2 hGB2 => ?_⟩
  have eB := srt_eq hsrt2 hsrt
  subst eB
  have sDH := sDG.trans sH
  have hGBH := (hGB.same sD).same sDH
  refine ⟨_, rfl, _, _, hGB2.dp, hGBH.dp, hdk.shaped (by decide), hdk.shaped (by decide), _, rfl, ifF (by rw [hdk.eq]; rfl) ?_⟩
  obtain ⟨g, w, gs, ws, L, d1, d2, d3, d4, d5⟩ := hAl.ex
  obtain ⟨hLa, hLs⟩ : (keysOf L).Pairwise ltS ∧ ∀ k ∈ keysOf L, k ∈ ks := by
    cases q : (alone M ops 9 []).2 with
    | none =>
      rw [q] at d5
      have d5 : L = [] := d5
      rw [d5]
      exact ⟨.nil, fun k h => absurd h List.not_mem_nil⟩
    | some C =>
      rw [q] at d5
      have d5 : Srt C L := d5
      exact ⟨d5.asc, fun k h => ck_in (fun o ho => (hok o ho).2) (hkk2 C q k ((d5.mem k).mp h))⟩
  have hLl : L.length ≤ 4 := by
    have h4 := len_sub _ _ (asc_nodup hLa) hLs
    unfold keysOf at h4
    rw [List.length_map] at h4
    omega
  have hrk2 : Rk ks (putAll M L) := hrk.put (asc_nodup hLa) hLs
  have hM2 := hrk2.len hkl
  have hRH := sH _ _ hRG
  have d1H := sDH _ _ d1
  have d3H := d3.same sDH
  refine ⟨_, rfl, _, rfl, pd, _, _, .ref w, rfl, rfl, SqT.of d1H, atI_nat (j := 1) rfl, pr, w, ws, M, L, rfl, hRH, d3H, by omega, by omega, fun p2 HI sI np2 hp2 => ?_⟩
  have hBs : ∀ e ∈ B2, e.2.isSome = true := fun e he => hrk.sm e.1 e.2 (hsrt.val e he)
  have hGBI := hGBH.same sI
  have d1I := sI _ _ d1H
  have d3I := d3H.same sI
  refine ⟨_, rfl, _, _, _, _, _, rfl, .ty _, .base (.dK hp2), kit_ty (b := "dict") (r := true) (by decide +kernel), _, rfl, ifF rfl ?_⟩
  refine ⟨_, rfl, p2, putAll M L, rfl, hp2, by omega, hrk2.nd, fun p3 bs3 B3 HJ sJ np3 hs3 hl3 hGB3 => ?_⟩
  refine ⟨_, rfl, _, rfl, pd, _, _, .ref w, rfl, rfl, SqT.of (sJ _ _ d1I), atI_nat (j := 1) rfl, pb, w, bs, ws, B2, L, rfl, hGBI.same sJ, d3I.same sJ, hBl, by omega, hLa, hsrt.asc, hBs, fun p4 as4 J HK sK hJp hJa hGJ => ?_⟩
  have eJ := srt_eq (join_srt hsrt hLa hJp hJa) hs3
  subst eJ
  refine ⟨_, _, rfl, (lk_gl (hGB3.same sK) hGJ (by omega)).up 2, fun HL sL => ⟨_, rfl, ifF rfl ?_⟩⟩
  have sIL := sJ.trans (sK.trans sL)
  refine ⟨_, rfl, p2, _, rfl, dput_at (sIL _ _ hp2) (by omega) "b" (some 17), ?_⟩
  have sM : Same HH (upd HL p2 (.dK (toK (mput (putAll M L) "b" (some 17))))) := same_mut (sI.trans sIL) np2
  show tSeq _ _ _ _ (upd HL p2 (.dK (toK (mput (putAll M L) "b" (some 17)))))
  generalize upd HL p2 (.dK (toK (mput (putAll M L) "b" (some 17)))) = HM at sM
  refine ⟨_, rfl, pr, M, rfl, sM _ _ hRH, by omega, hrk.nd, fun pb5 bs5 B5 HN sN npb5 hs5 hl5 hGB5 => ?_⟩
  have e5 := srt_eq hs5 hsrt
  subst e5
  have sHN := sM.trans sN
  have hGBN := hGBH.same sHN
  refine ⟨_, rfl, _, _, hGB5.dp, hGBN.dp, hdk.shaped (by decide), hdk.shaped (by decide), _, rfl, ifF (by rw [hdk.eq]; rfl) ?_⟩
  refine ⟨_, rfl, _, rfl, pd, _, _, .ref w, rfl, rfl, SqT.of (sHN _ _ d1H), atI_nat (j := 1) rfl, pr, w, ws, M, L, rfl, sHN _ _ hRH, d3H.same sHN, by omega, by omega, fun p6 HO sO np6 hp6 => ?_⟩
  have sHO := sHN.trans sO
  refine ⟨_, rfl, _, _, _, _, _, rfl, .ty _, .base (.dK hp6), kit_ty (b := "dict") (r := true) (by decide +kernel), _, rfl, ifF rfl ?_⟩
  refine ⟨_, rfl, p6, putAll M L, rfl, hp6, by omega, hrk2.nd, fun p7 bs7 B7 HP sP np7 hs7 hl7 hGB7 => ?_⟩
  have sHP := sHO.trans sP
  refine ⟨_, rfl, _, rfl, pd, _, _, .ref w, rfl, rfl, SqT.of (sHP _ _ d1H), atI_nat (j := 1) rfl, pb, w, bs, ws, _, L, rfl, hGBH.same sHP, d3H.same sHP, hBl, by omega, hLa, hsrt.asc, hBs, fun p8 as8 J8 HR sR hJp8 hJa8 hGJ8 => ?_⟩
  have eJ8 := srt_eq (join_srt hsrt hLa hJp8 hJa8) hs7
  subst eJ8
  refine ⟨_, _, rfl, (lk_gl (hGB7.same sR) hGJ8 (by omega)).up 2, fun HS sS => ⟨_, rfl, ifF rfl ?_⟩⟩
  have sOS := sP.trans (sR.trans sS)
  have sFin := sAD.trans (sDH.trans (sHO.trans sOS))
  exact ⟨_, _, _, _, _, _, p6, putAll M L, rfl, sFin, (sB.trans (sC.trans (sD.trans (sDH.trans (sHO.trans sOS))))) _ _ hK, sOS _ _ hp6, hrk2, (sAD.trans (sDH.trans sHN)).free np6⟩

end
theorem all_mk {l : PySem.W.OpenLaw} {w : World} {K : PySem.W.Frag} {h : Heap} {mg : Str → Option Value} {fa f_advance f_run_alone f_put_rows f__gives_up f__new_value f__law_cell f__law_draws f__law_keys f__law_operation f__law_program f__law_like f__law_reads f__law_changes_key f__law_fails f__law_becomes f__law_step f__law_shown f__law_alone f__law_joined f__law_listed f_law DC_READ_KEY DC_CHANGED_KEY : Addr} (X : K.In h) (G : h.Ns mainGlobals mg) (hfa : mg "law" = some (.ref fa))
    {od_advance an_advance : Option Addr} {sl_advance : Array (Option Value)} {oc_advance kV_advance dc_advance pm_advance cd_advance ct_advance : Value}
    {od_run_alone an_run_alone : Option Addr} {sl_run_alone : Array (Option Value)} {oc_run_alone kV_run_alone dc_run_alone pm_run_alone cd_run_alone ct_run_alone : Value}
    {od_put_rows an_put_rows : Option Addr} {sl_put_rows : Array (Option Value)} {oc_put_rows kV_put_rows dc_put_rows pm_put_rows cd_put_rows ct_put_rows : Value}
    {od__gives_up an__gives_up : Option Addr} {sl__gives_up : Array (Option Value)} {oc__gives_up kV__gives_up dc__gives_up pm__gives_up cd__gives_up ct__gives_up : Value}
    {od__new_value an__new_value : Option Addr} {sl__new_value : Array (Option Value)} {oc__new_value kV__new_value dc__new_value pm__new_value cd__new_value ct__new_value : Value}
    {od__law_cell an__law_cell : Option Addr} {sl__law_cell : Array (Option Value)} {oc__law_cell kV__law_cell dc__law_cell pm__law_cell cd__law_cell ct__law_cell : Value}
    {od__law_draws an__law_draws : Option Addr} {sl__law_draws : Array (Option Value)} {oc__law_draws kV__law_draws dc__law_draws pm__law_draws cd__law_draws ct__law_draws : Value}
    {od__law_keys an__law_keys : Option Addr} {sl__law_keys : Array (Option Value)} {oc__law_keys kV__law_keys dc__law_keys pm__law_keys cd__law_keys ct__law_keys : Value}
    {od__law_operation an__law_operation : Option Addr} {sl__law_operation : Array (Option Value)} {oc__law_operation kV__law_operation dc__law_operation pm__law_operation cd__law_operation ct__law_operation : Value}
    {od__law_program an__law_program : Option Addr} {sl__law_program : Array (Option Value)} {oc__law_program kV__law_program dc__law_program pm__law_program cd__law_program ct__law_program : Value}
    {od__law_like an__law_like : Option Addr} {sl__law_like : Array (Option Value)} {oc__law_like kV__law_like dc__law_like pm__law_like cd__law_like ct__law_like : Value}
    {od__law_reads an__law_reads : Option Addr} {sl__law_reads : Array (Option Value)} {oc__law_reads kV__law_reads dc__law_reads pm__law_reads cd__law_reads ct__law_reads : Value}
    {od__law_changes_key an__law_changes_key : Option Addr} {sl__law_changes_key : Array (Option Value)} {oc__law_changes_key kV__law_changes_key dc__law_changes_key pm__law_changes_key cd__law_changes_key ct__law_changes_key : Value}
    {od__law_fails an__law_fails : Option Addr} {sl__law_fails : Array (Option Value)} {oc__law_fails kV__law_fails dc__law_fails pm__law_fails cd__law_fails ct__law_fails : Value}
    {od__law_becomes an__law_becomes : Option Addr} {sl__law_becomes : Array (Option Value)} {oc__law_becomes kV__law_becomes dc__law_becomes pm__law_becomes cd__law_becomes ct__law_becomes : Value}
    {od__law_step an__law_step : Option Addr} {sl__law_step : Array (Option Value)} {oc__law_step kV__law_step dc__law_step pm__law_step cd__law_step ct__law_step : Value}
    {od__law_shown an__law_shown : Option Addr} {sl__law_shown : Array (Option Value)} {oc__law_shown kV__law_shown dc__law_shown pm__law_shown cd__law_shown ct__law_shown : Value}
    {od__law_alone an__law_alone : Option Addr} {sl__law_alone : Array (Option Value)} {oc__law_alone kV__law_alone dc__law_alone pm__law_alone cd__law_alone ct__law_alone : Value}
    {od__law_joined an__law_joined : Option Addr} {sl__law_joined : Array (Option Value)} {oc__law_joined kV__law_joined dc__law_joined pm__law_joined cd__law_joined ct__law_joined : Value}
    {od__law_listed an__law_listed : Option Addr} {sl__law_listed : Array (Option Value)} {oc__law_listed kV__law_listed dc__law_listed pm__law_listed cd__law_listed ct__law_listed : Value}
    {od_law an_law : Option Addr} {sl_law : Array (Option Value)} {oc_law kV_law dc_law pm_law cd_law ct_law : Value}
    {es_READ_KEY : Array DictEntry} {en_READ_KEY : Nat}
    {tk_READ_KEY_read : Tok}
    {tk_READ_KEY_add : Tok}
    {tk_READ_KEY_need : Tok}
    {tk_READ_KEY_equal : Tok}
    {tk_READ_KEY_copy : Tok}
    {es_CHANGED_KEY : Array DictEntry} {en_CHANGED_KEY : Nat}
    {tk_CHANGED_KEY_add : Tok}
    {tk_CHANGED_KEY_copy : Tok}
    {tk_CHANGED_KEY_put : Tok}
    {tk_CHANGED_KEY_drop : Tok}
    (a_advance : PySem.W.nsIn K mainGlobals "advance" = some (some (.ref f_advance)))
    (l_advance : K.lookup f_advance = some ⟨oc_advance, od_advance, .func (PySem.W.fnOf "advance" "advance" (defArgs s_advance) (defBody s_advance) (defScope s_advance) .none kV_advance dc_advance pm_advance an_advance cd_advance ct_advance), sl_advance⟩)
    (c_advance : PySem.W.codeIn K cd_advance "advance" = true)
    (k_advance : PySem.W.keepIn K (.ref f_advance) = true)
    (a_run_alone : PySem.W.nsIn K mainGlobals "run_alone" = some (some (.ref f_run_alone)))
    (l_run_alone : K.lookup f_run_alone = some ⟨oc_run_alone, od_run_alone, .func (PySem.W.fnOf "run_alone" "run_alone" (defArgs s_run_alone) (defBody s_run_alone) (defScope s_run_alone) .none kV_run_alone dc_run_alone pm_run_alone an_run_alone cd_run_alone ct_run_alone), sl_run_alone⟩)
    (c_run_alone : PySem.W.codeIn K cd_run_alone "run_alone" = true)
    (k_run_alone : PySem.W.keepIn K (.ref f_run_alone) = true)
    (a_put_rows : PySem.W.nsIn K mainGlobals "put_rows" = some (some (.ref f_put_rows)))
    (l_put_rows : K.lookup f_put_rows = some ⟨oc_put_rows, od_put_rows, .func (PySem.W.fnOf "put_rows" "put_rows" (defArgs s_put_rows) (defBody s_put_rows) (defScope s_put_rows) .none kV_put_rows dc_put_rows pm_put_rows an_put_rows cd_put_rows ct_put_rows), sl_put_rows⟩)
    (c_put_rows : PySem.W.codeIn K cd_put_rows "put_rows" = true)
    (k_put_rows : PySem.W.keepIn K (.ref f_put_rows) = true)
    (a__gives_up : PySem.W.nsIn K mainGlobals "_gives_up" = some (some (.ref f__gives_up)))
    (l__gives_up : K.lookup f__gives_up = some ⟨oc__gives_up, od__gives_up, .func (PySem.W.fnOf "_gives_up" "_gives_up" (defArgs s__gives_up) (defBody s__gives_up) (defScope s__gives_up) .none kV__gives_up dc__gives_up pm__gives_up an__gives_up cd__gives_up ct__gives_up), sl__gives_up⟩)
    (c__gives_up : PySem.W.codeIn K cd__gives_up "_gives_up" = true)
    (k__gives_up : PySem.W.keepIn K (.ref f__gives_up) = true)
    (a__new_value : PySem.W.nsIn K mainGlobals "_new_value" = some (some (.ref f__new_value)))
    (l__new_value : K.lookup f__new_value = some ⟨oc__new_value, od__new_value, .func (PySem.W.fnOf "_new_value" "_new_value" (defArgs s__new_value) (defBody s__new_value) (defScope s__new_value) .none kV__new_value dc__new_value pm__new_value an__new_value cd__new_value ct__new_value), sl__new_value⟩)
    (c__new_value : PySem.W.codeIn K cd__new_value "_new_value" = true)
    (k__new_value : PySem.W.keepIn K (.ref f__new_value) = true)
    (a__law_cell : PySem.W.nsIn K mainGlobals "_law_cell" = some (some (.ref f__law_cell)))
    (l__law_cell : K.lookup f__law_cell = some ⟨oc__law_cell, od__law_cell, .func (PySem.W.fnOf "_law_cell" "_law_cell" (defArgs s__law_cell) (defBody s__law_cell) (defScope s__law_cell) .none kV__law_cell dc__law_cell pm__law_cell an__law_cell cd__law_cell ct__law_cell), sl__law_cell⟩)
    (c__law_cell : PySem.W.codeIn K cd__law_cell "_law_cell" = true)
    (k__law_cell : PySem.W.keepIn K (.ref f__law_cell) = true)
    (a__law_draws : PySem.W.nsIn K mainGlobals "_law_draws" = some (some (.ref f__law_draws)))
    (l__law_draws : K.lookup f__law_draws = some ⟨oc__law_draws, od__law_draws, .func (PySem.W.fnOf "_law_draws" "_law_draws" (defArgs s__law_draws) (defBody s__law_draws) (defScope s__law_draws) .none kV__law_draws dc__law_draws pm__law_draws an__law_draws cd__law_draws ct__law_draws), sl__law_draws⟩)
    (c__law_draws : PySem.W.codeIn K cd__law_draws "_law_draws" = true)
    (k__law_draws : PySem.W.keepIn K (.ref f__law_draws) = true)
    (a__law_keys : PySem.W.nsIn K mainGlobals "_law_keys" = some (some (.ref f__law_keys)))
    (l__law_keys : K.lookup f__law_keys = some ⟨oc__law_keys, od__law_keys, .func (PySem.W.fnOf "_law_keys" "_law_keys" (defArgs s__law_keys) (defBody s__law_keys) (defScope s__law_keys) .none kV__law_keys dc__law_keys pm__law_keys an__law_keys cd__law_keys ct__law_keys), sl__law_keys⟩)
    (c__law_keys : PySem.W.codeIn K cd__law_keys "_law_keys" = true)
    (k__law_keys : PySem.W.keepIn K (.ref f__law_keys) = true)
    (a__law_operation : PySem.W.nsIn K mainGlobals "_law_operation" = some (some (.ref f__law_operation)))
    (l__law_operation : K.lookup f__law_operation = some ⟨oc__law_operation, od__law_operation, .func (PySem.W.fnOf "_law_operation" "_law_operation" (defArgs s__law_operation) (defBody s__law_operation) (defScope s__law_operation) .none kV__law_operation dc__law_operation pm__law_operation an__law_operation cd__law_operation ct__law_operation), sl__law_operation⟩)
    (c__law_operation : PySem.W.codeIn K cd__law_operation "_law_operation" = true)
    (k__law_operation : PySem.W.keepIn K (.ref f__law_operation) = true)
    (a__law_program : PySem.W.nsIn K mainGlobals "_law_program" = some (some (.ref f__law_program)))
    (l__law_program : K.lookup f__law_program = some ⟨oc__law_program, od__law_program, .func (PySem.W.fnOf "_law_program" "_law_program" (defArgs s__law_program) (defBody s__law_program) (defScope s__law_program) .none kV__law_program dc__law_program pm__law_program an__law_program cd__law_program ct__law_program), sl__law_program⟩)
    (c__law_program : PySem.W.codeIn K cd__law_program "_law_program" = true)
    (k__law_program : PySem.W.keepIn K (.ref f__law_program) = true)
    (a__law_like : PySem.W.nsIn K mainGlobals "_law_like" = some (some (.ref f__law_like)))
    (l__law_like : K.lookup f__law_like = some ⟨oc__law_like, od__law_like, .func (PySem.W.fnOf "_law_like" "_law_like" (defArgs s__law_like) (defBody s__law_like) (defScope s__law_like) .none kV__law_like dc__law_like pm__law_like an__law_like cd__law_like ct__law_like), sl__law_like⟩)
    (c__law_like : PySem.W.codeIn K cd__law_like "_law_like" = true)
    (k__law_like : PySem.W.keepIn K (.ref f__law_like) = true)
    (a__law_reads : PySem.W.nsIn K mainGlobals "_law_reads" = some (some (.ref f__law_reads)))
    (l__law_reads : K.lookup f__law_reads = some ⟨oc__law_reads, od__law_reads, .func (PySem.W.fnOf "_law_reads" "_law_reads" (defArgs s__law_reads) (defBody s__law_reads) (defScope s__law_reads) .none kV__law_reads dc__law_reads pm__law_reads an__law_reads cd__law_reads ct__law_reads), sl__law_reads⟩)
    (c__law_reads : PySem.W.codeIn K cd__law_reads "_law_reads" = true)
    (k__law_reads : PySem.W.keepIn K (.ref f__law_reads) = true)
    (a__law_changes_key : PySem.W.nsIn K mainGlobals "_law_changes_key" = some (some (.ref f__law_changes_key)))
    (l__law_changes_key : K.lookup f__law_changes_key = some ⟨oc__law_changes_key, od__law_changes_key, .func (PySem.W.fnOf "_law_changes_key" "_law_changes_key" (defArgs s__law_changes_key) (defBody s__law_changes_key) (defScope s__law_changes_key) .none kV__law_changes_key dc__law_changes_key pm__law_changes_key an__law_changes_key cd__law_changes_key ct__law_changes_key), sl__law_changes_key⟩)
    (c__law_changes_key : PySem.W.codeIn K cd__law_changes_key "_law_changes_key" = true)
    (k__law_changes_key : PySem.W.keepIn K (.ref f__law_changes_key) = true)
    (a__law_fails : PySem.W.nsIn K mainGlobals "_law_fails" = some (some (.ref f__law_fails)))
    (l__law_fails : K.lookup f__law_fails = some ⟨oc__law_fails, od__law_fails, .func (PySem.W.fnOf "_law_fails" "_law_fails" (defArgs s__law_fails) (defBody s__law_fails) (defScope s__law_fails) .none kV__law_fails dc__law_fails pm__law_fails an__law_fails cd__law_fails ct__law_fails), sl__law_fails⟩)
    (c__law_fails : PySem.W.codeIn K cd__law_fails "_law_fails" = true)
    (k__law_fails : PySem.W.keepIn K (.ref f__law_fails) = true)
    (a__law_becomes : PySem.W.nsIn K mainGlobals "_law_becomes" = some (some (.ref f__law_becomes)))
    (l__law_becomes : K.lookup f__law_becomes = some ⟨oc__law_becomes, od__law_becomes, .func (PySem.W.fnOf "_law_becomes" "_law_becomes" (defArgs s__law_becomes) (defBody s__law_becomes) (defScope s__law_becomes) .none kV__law_becomes dc__law_becomes pm__law_becomes an__law_becomes cd__law_becomes ct__law_becomes), sl__law_becomes⟩)
    (c__law_becomes : PySem.W.codeIn K cd__law_becomes "_law_becomes" = true)
    (k__law_becomes : PySem.W.keepIn K (.ref f__law_becomes) = true)
    (a__law_step : PySem.W.nsIn K mainGlobals "_law_step" = some (some (.ref f__law_step)))
    (l__law_step : K.lookup f__law_step = some ⟨oc__law_step, od__law_step, .func (PySem.W.fnOf "_law_step" "_law_step" (defArgs s__law_step) (defBody s__law_step) (defScope s__law_step) .none kV__law_step dc__law_step pm__law_step an__law_step cd__law_step ct__law_step), sl__law_step⟩)
    (c__law_step : PySem.W.codeIn K cd__law_step "_law_step" = true)
    (k__law_step : PySem.W.keepIn K (.ref f__law_step) = true)
    (a__law_shown : PySem.W.nsIn K mainGlobals "_law_shown" = some (some (.ref f__law_shown)))
    (l__law_shown : K.lookup f__law_shown = some ⟨oc__law_shown, od__law_shown, .func (PySem.W.fnOf "_law_shown" "_law_shown" (defArgs s__law_shown) (defBody s__law_shown) (defScope s__law_shown) .none kV__law_shown dc__law_shown pm__law_shown an__law_shown cd__law_shown ct__law_shown), sl__law_shown⟩)
    (c__law_shown : PySem.W.codeIn K cd__law_shown "_law_shown" = true)
    (k__law_shown : PySem.W.keepIn K (.ref f__law_shown) = true)
    (a__law_alone : PySem.W.nsIn K mainGlobals "_law_alone" = some (some (.ref f__law_alone)))
    (l__law_alone : K.lookup f__law_alone = some ⟨oc__law_alone, od__law_alone, .func (PySem.W.fnOf "_law_alone" "_law_alone" (defArgs s__law_alone) (defBody s__law_alone) (defScope s__law_alone) .none kV__law_alone dc__law_alone pm__law_alone an__law_alone cd__law_alone ct__law_alone), sl__law_alone⟩)
    (c__law_alone : PySem.W.codeIn K cd__law_alone "_law_alone" = true)
    (k__law_alone : PySem.W.keepIn K (.ref f__law_alone) = true)
    (a__law_joined : PySem.W.nsIn K mainGlobals "_law_joined" = some (some (.ref f__law_joined)))
    (l__law_joined : K.lookup f__law_joined = some ⟨oc__law_joined, od__law_joined, .func (PySem.W.fnOf "_law_joined" "_law_joined" (defArgs s__law_joined) (defBody s__law_joined) (defScope s__law_joined) .none kV__law_joined dc__law_joined pm__law_joined an__law_joined cd__law_joined ct__law_joined), sl__law_joined⟩)
    (c__law_joined : PySem.W.codeIn K cd__law_joined "_law_joined" = true)
    (k__law_joined : PySem.W.keepIn K (.ref f__law_joined) = true)
    (a__law_listed : PySem.W.nsIn K mainGlobals "_law_listed" = some (some (.ref f__law_listed)))
    (l__law_listed : K.lookup f__law_listed = some ⟨oc__law_listed, od__law_listed, .func (PySem.W.fnOf "_law_listed" "_law_listed" (defArgs s__law_listed) (defBody s__law_listed) (defScope s__law_listed) .none kV__law_listed dc__law_listed pm__law_listed an__law_listed cd__law_listed ct__law_listed), sl__law_listed⟩)
    (c__law_listed : PySem.W.codeIn K cd__law_listed "_law_listed" = true)
    (k__law_listed : PySem.W.keepIn K (.ref f__law_listed) = true)
    (a_law : PySem.W.nsIn K mainGlobals "law" = some (some (.ref f_law)))
    (l_law : K.lookup f_law = some ⟨oc_law, od_law, .func (PySem.W.fnOf "law" "law" (defArgs s_law) (defBody s_law) (defScope s_law) .none kV_law dc_law pm_law an_law cd_law ct_law), sl_law⟩)
    (c_law : PySem.W.codeIn K cd_law "law" = true)
    (k_law : PySem.W.keepIn K (.ref f_law) = true)
    (mg_READ_KEY : PySem.W.nsIn K mainGlobals "READ_KEY" = some (some (.ref DC_READ_KEY)))
    (l_READ_KEY : K.lookup DC_READ_KEY = some ⟨.type "dict", none, .dict es_READ_KEY en_READ_KEY, #[]⟩)
    (low_READ_KEY : (DC_READ_KEY == sysModules) = false)
    (i_READ_KEY_read : PySem.W.nsIn K DC_READ_KEY "read" = some (some (.int 1 tk_READ_KEY_read)))
    (i_READ_KEY_add : PySem.W.nsIn K DC_READ_KEY "add" = some (some (.int 1 tk_READ_KEY_add)))
    (i_READ_KEY_need : PySem.W.nsIn K DC_READ_KEY "need" = some (some (.int 1 tk_READ_KEY_need)))
    (i_READ_KEY_equal : PySem.W.nsIn K DC_READ_KEY "equal" = some (some (.int 1 tk_READ_KEY_equal)))
    (i_READ_KEY_copy : PySem.W.nsIn K DC_READ_KEY "copy" = some (some (.int 1 tk_READ_KEY_copy)))
    (i_READ_KEY_put : PySem.W.nsIn K DC_READ_KEY "put" = some none)
    (i_READ_KEY_drop : PySem.W.nsIn K DC_READ_KEY "drop" = some none)
    (lit_READ_KEY : PySem.W.KeysLit w.params es_READ_KEY.toList)
    (mg_CHANGED_KEY : PySem.W.nsIn K mainGlobals "CHANGED_KEY" = some (some (.ref DC_CHANGED_KEY)))
    (l_CHANGED_KEY : K.lookup DC_CHANGED_KEY = some ⟨.type "dict", none, .dict es_CHANGED_KEY en_CHANGED_KEY, #[]⟩)
    (low_CHANGED_KEY : (DC_CHANGED_KEY == sysModules) = false)
    (i_CHANGED_KEY_read : PySem.W.nsIn K DC_CHANGED_KEY "read" = some none)
    (i_CHANGED_KEY_add : PySem.W.nsIn K DC_CHANGED_KEY "add" = some (some (.int 1 tk_CHANGED_KEY_add)))
    (i_CHANGED_KEY_need : PySem.W.nsIn K DC_CHANGED_KEY "need" = some none)
    (i_CHANGED_KEY_equal : PySem.W.nsIn K DC_CHANGED_KEY "equal" = some none)
    (i_CHANGED_KEY_copy : PySem.W.nsIn K DC_CHANGED_KEY "copy" = some (some (.int 2 tk_CHANGED_KEY_copy)))
    (i_CHANGED_KEY_put : PySem.W.nsIn K DC_CHANGED_KEY "put" = some (some (.int 1 tk_CHANGED_KEY_put)))
    (i_CHANGED_KEY_drop : PySem.W.nsIn K DC_CHANGED_KEY "drop" = some (some (.int 1 tk_CHANGED_KEY_drop)))
    (lit_CHANGED_KEY : PySem.W.KeysLit w.params es_CHANGED_KEY.toList)
    (z_dict : PySem.W.nsIn K mainGlobals "dict" = some none)
    (z_tuple : PySem.W.nsIn K mainGlobals "tuple" = some none)
    (z_sorted : PySem.W.nsIn K mainGlobals "sorted" = some none)
    (z_len : PySem.W.nsIn K mainGlobals "len" = some none)
    (z_abs : PySem.W.nsIn K mainGlobals "abs" = some none)
    (z_int : PySem.W.nsIn K mainGlobals "int" = some none)
    (z_range : PySem.W.nsIn K mainGlobals "range" = some none)
    (z_isinstance : PySem.W.nsIn K mainGlobals "isinstance" = some none)
    (z_bool : PySem.W.nsIn K mainGlobals "bool" = some none)
    (z_str : PySem.W.nsIn K mainGlobals "str" = some none)
    (z_all : PySem.W.nsIn K mainGlobals "all" = some none)
    (z_list : PySem.W.nsIn K mainGlobals "list" = some none)
    (z_min : PySem.W.nsIn K mainGlobals "min" = some none)
    (z_max : PySem.W.nsIn K mainGlobals "max" = some none) :
    ∃ fd : FuncData, (∀ (s : Shared) (v : Value), BindsTo s fd ⟨[v], []⟩ [("script", v)]) ∧ ∀ base : Heap, K.In base → base.Ns mainGlobals mg → FnOk l.prog w K mg base CX0 9 fa fd ["script"] (spLaw K) := by
  have e : f_law = fa := (Value.ref.inj (Option.some.inj (hfa.symm.trans (PySem.W.mg_of X G a_law)))).symm
  subst e
  let T : Env K mg w := {
    a_advance := f_advance,
    d_advance := _,
    F_advance := fun_mk (st := s_advance) l_advance c_advance k_advance,
    b_advance := (fun_mk (st := s_advance) l_advance c_advance k_advance).binds (ps := ["program", "got"]) fun _ _ _ _ _ _ us hl => match us, hl with | [_, _], _ => rfl,
    g_advance := PySem.W.mg_of X G a_advance,
    a_run_alone := f_run_alone,
    d_run_alone := _,
    F_run_alone := fun_mk (st := s_run_alone) l_run_alone c_run_alone k_run_alone,
    b_run_alone := (fun_mk (st := s_run_alone) l_run_alone c_run_alone k_run_alone).binds (ps := ["rows", "program"]) fun _ _ _ _ _ _ us hl => match us, hl with | [_, _], _ => rfl,
    g_run_alone := PySem.W.mg_of X G a_run_alone,
    a_put_rows := f_put_rows,
    d_put_rows := _,
    F_put_rows := fun_mk (st := s_put_rows) l_put_rows c_put_rows k_put_rows,
    b_put_rows := (fun_mk (st := s_put_rows) l_put_rows c_put_rows k_put_rows).binds (ps := ["rows", "writes"]) fun _ _ _ _ _ _ us hl => match us, hl with | [_, _], _ => rfl,
    g_put_rows := PySem.W.mg_of X G a_put_rows,
    a__gives_up := f__gives_up,
    d__gives_up := _,
    F__gives_up := fun_mk (st := s__gives_up) l__gives_up c__gives_up k__gives_up,
    b__gives_up := (fun_mk (st := s__gives_up) l__gives_up c__gives_up k__gives_up).binds (ps := ["operation", "value"]) fun _ _ _ _ _ _ us hl => match us, hl with | [_, _], _ => rfl,
    g__gives_up := PySem.W.mg_of X G a__gives_up,
    a__new_value := f__new_value,
    d__new_value := _,
    F__new_value := fun_mk (st := s__new_value) l__new_value c__new_value k__new_value,
    b__new_value := (fun_mk (st := s__new_value) l__new_value c__new_value k__new_value).binds (ps := ["operation", "value"]) fun _ _ _ _ _ _ us hl => match us, hl with | [_, _], _ => rfl,
    g__new_value := PySem.W.mg_of X G a__new_value,
    a__law_cell := f__law_cell,
    d__law_cell := _,
    F__law_cell := fun_mk (st := s__law_cell) l__law_cell c__law_cell k__law_cell,
    b__law_cell := (fun_mk (st := s__law_cell) l__law_cell c__law_cell k__law_cell).binds (ps := ["script", "k"]) fun _ _ _ _ _ _ us hl => match us, hl with | [_, _], _ => rfl,
    g__law_cell := PySem.W.mg_of X G a__law_cell,
    a__law_draws := f__law_draws,
    d__law_draws := _,
    F__law_draws := fun_mk (st := s__law_draws) l__law_draws c__law_draws k__law_draws,
    b__law_draws := (fun_mk (st := s__law_draws) l__law_draws c__law_draws k__law_draws).binds (ps := ["cell", "many", "limit"]) fun _ _ _ _ _ _ us hl => match us, hl with | [_, _, _], _ => rfl,
    g__law_draws := PySem.W.mg_of X G a__law_draws,
    a__law_keys := f__law_keys,
    d__law_keys := _,
    F__law_keys := fun_mk (st := s__law_keys) l__law_keys c__law_keys k__law_keys,
    b__law_keys := (fun_mk (st := s__law_keys) l__law_keys c__law_keys k__law_keys).binds (ps := ["cell"]) fun _ _ _ _ _ _ us hl => match us, hl with | [_], _ => rfl,
    g__law_keys := PySem.W.mg_of X G a__law_keys,
    a__law_operation := f__law_operation,
    d__law_operation := _,
    F__law_operation := fun_mk (st := s__law_operation) l__law_operation c__law_operation k__law_operation,
    b__law_operation := (fun_mk (st := s__law_operation) l__law_operation c__law_operation k__law_operation).binds (ps := ["number", "keys"]) fun _ _ _ _ _ _ us hl => match us, hl with | [_, _], _ => rfl,
    g__law_operation := PySem.W.mg_of X G a__law_operation,
    a__law_program := f__law_program,
    d__law_program := _,
    F__law_program := fun_mk (st := s__law_program) l__law_program c__law_program k__law_program,
    b__law_program := (fun_mk (st := s__law_program) l__law_program c__law_program k__law_program).binds (ps := ["cell", "keys"]) fun _ _ _ _ _ _ us hl => match us, hl with | [_, _], _ => rfl,
    g__law_program := PySem.W.mg_of X G a__law_program,
    a__law_like := f__law_like,
    d__law_like := _,
    F__law_like := fun_mk (st := s__law_like) l__law_like c__law_like k__law_like,
    b__law_like := (fun_mk (st := s__law_like) l__law_like c__law_like k__law_like).binds (ps := ["actual", "due"]) fun _ _ _ _ _ _ us hl => match us, hl with | [_, _], _ => rfl,
    g__law_like := PySem.W.mg_of X G a__law_like,
    a__law_reads := f__law_reads,
    d__law_reads := _,
    F__law_reads := fun_mk (st := s__law_reads) l__law_reads c__law_reads k__law_reads,
    b__law_reads := (fun_mk (st := s__law_reads) l__law_reads c__law_reads k__law_reads).binds (ps := ["part"]) fun _ _ _ _ _ _ us hl => match us, hl with | [_], _ => rfl,
    g__law_reads := PySem.W.mg_of X G a__law_reads,
    a__law_changes_key := f__law_changes_key,
    d__law_changes_key := _,
    F__law_changes_key := fun_mk (st := s__law_changes_key) l__law_changes_key c__law_changes_key k__law_changes_key,
    b__law_changes_key := (fun_mk (st := s__law_changes_key) l__law_changes_key c__law_changes_key k__law_changes_key).binds (ps := ["part"]) fun _ _ _ _ _ _ us hl => match us, hl with | [_], _ => rfl,
    g__law_changes_key := PySem.W.mg_of X G a__law_changes_key,
    a__law_fails := f__law_fails,
    d__law_fails := _,
    F__law_fails := fun_mk (st := s__law_fails) l__law_fails c__law_fails k__law_fails,
    b__law_fails := (fun_mk (st := s__law_fails) l__law_fails c__law_fails k__law_fails).binds (ps := ["part", "current"]) fun _ _ _ _ _ _ us hl => match us, hl with | [_, _], _ => rfl,
    g__law_fails := PySem.W.mg_of X G a__law_fails,
    a__law_becomes := f__law_becomes,
    d__law_becomes := _,
    F__law_becomes := fun_mk (st := s__law_becomes) l__law_becomes c__law_becomes k__law_becomes,
    b__law_becomes := (fun_mk (st := s__law_becomes) l__law_becomes c__law_becomes k__law_becomes).binds (ps := ["part", "current"]) fun _ _ _ _ _ _ us hl => match us, hl with | [_, _], _ => rfl,
    g__law_becomes := PySem.W.mg_of X G a__law_becomes,
    a__law_step := f__law_step,
    d__law_step := _,
    F__law_step := fun_mk (st := s__law_step) l__law_step c__law_step k__law_step,
    b__law_step := (fun_mk (st := s__law_step) l__law_step c__law_step k__law_step).binds (ps := ["program", "got"]) fun _ _ _ _ _ _ us hl => match us, hl with | [_, _], _ => rfl,
    g__law_step := PySem.W.mg_of X G a__law_step,
    a__law_shown := f__law_shown,
    d__law_shown := _,
    F__law_shown := fun_mk (st := s__law_shown) l__law_shown c__law_shown k__law_shown,
    b__law_shown := (fun_mk (st := s__law_shown) l__law_shown c__law_shown k__law_shown).binds (ps := ["number"]) fun _ _ _ _ _ _ us hl => match us, hl with | [_], _ => rfl,
    g__law_shown := PySem.W.mg_of X G a__law_shown,
    a__law_alone := f__law_alone,
    d__law_alone := _,
    F__law_alone := fun_mk (st := s__law_alone) l__law_alone c__law_alone k__law_alone,
    b__law_alone := (fun_mk (st := s__law_alone) l__law_alone c__law_alone k__law_alone).binds (ps := ["rows", "program"]) fun _ _ _ _ _ _ us hl => match us, hl with | [_, _], _ => rfl,
    g__law_alone := PySem.W.mg_of X G a__law_alone,
    a__law_joined := f__law_joined,
    d__law_joined := _,
    F__law_joined := fun_mk (st := s__law_joined) l__law_joined c__law_joined k__law_joined,
    b__law_joined := (fun_mk (st := s__law_joined) l__law_joined c__law_joined k__law_joined).binds (ps := ["before", "writes"]) fun _ _ _ _ _ _ us hl => match us, hl with | [_, _], _ => rfl,
    g__law_joined := PySem.W.mg_of X G a__law_joined,
    a__law_listed := f__law_listed,
    d__law_listed := _,
    F__law_listed := fun_mk (st := s__law_listed) l__law_listed c__law_listed k__law_listed,
    b__law_listed := (fun_mk (st := s__law_listed) l__law_listed c__law_listed k__law_listed).binds (ps := ["rows"]) fun _ _ _ _ _ _ us hl => match us, hl with | [_], _ => rfl,
    g__law_listed := PySem.W.mg_of X G a__law_listed,
    a_law := f_law,
    d_law := _,
    F_law := fun_mk (st := s_law) l_law c_law k_law,
    b_law := (fun_mk (st := s_law) l_law c_law k_law).binds (ps := ["script"]) fun _ _ _ _ _ _ us hl => match us, hl with | [_], _ => rfl,
    o_READ_KEY := DC_READ_KEY,
    k_READ_KEY := PySem.W.mg_of X G mg_READ_KEY,
    es_READ_KEY := es_READ_KEY,
    en_READ_KEY := en_READ_KEY,
    D_READ_KEY := ⟨l_READ_KEY, lit_READ_KEY, low_READ_KEY⟩,
    v_READ_KEY_read := _,
    i_READ_KEY_read := i_READ_KEY_read,
    r_READ_KEY_read := ⟨_, rfl⟩,
    v_READ_KEY_add := _,
    i_READ_KEY_add := i_READ_KEY_add,
    r_READ_KEY_add := ⟨_, rfl⟩,
    v_READ_KEY_need := _,
    i_READ_KEY_need := i_READ_KEY_need,
    r_READ_KEY_need := ⟨_, rfl⟩,
    v_READ_KEY_equal := _,
    i_READ_KEY_equal := i_READ_KEY_equal,
    r_READ_KEY_equal := ⟨_, rfl⟩,
    v_READ_KEY_copy := _,
    i_READ_KEY_copy := i_READ_KEY_copy,
    r_READ_KEY_copy := ⟨_, rfl⟩,
    i_READ_KEY_put := i_READ_KEY_put,
    i_READ_KEY_drop := i_READ_KEY_drop,
    o_CHANGED_KEY := DC_CHANGED_KEY,
    k_CHANGED_KEY := PySem.W.mg_of X G mg_CHANGED_KEY,
    es_CHANGED_KEY := es_CHANGED_KEY,
    en_CHANGED_KEY := en_CHANGED_KEY,
    D_CHANGED_KEY := ⟨l_CHANGED_KEY, lit_CHANGED_KEY, low_CHANGED_KEY⟩,
    i_CHANGED_KEY_read := i_CHANGED_KEY_read,
    v_CHANGED_KEY_add := _,
    i_CHANGED_KEY_add := i_CHANGED_KEY_add,
    r_CHANGED_KEY_add := ⟨_, rfl⟩,
    i_CHANGED_KEY_need := i_CHANGED_KEY_need,
    i_CHANGED_KEY_equal := i_CHANGED_KEY_equal,
    v_CHANGED_KEY_copy := _,
    i_CHANGED_KEY_copy := i_CHANGED_KEY_copy,
    r_CHANGED_KEY_copy := ⟨_, rfl⟩,
    v_CHANGED_KEY_put := _,
    i_CHANGED_KEY_put := i_CHANGED_KEY_put,
    r_CHANGED_KEY_put := ⟨_, rfl⟩,
    v_CHANGED_KEY_drop := _,
    i_CHANGED_KEY_drop := i_CHANGED_KEY_drop,
    r_CHANGED_KEY_drop := ⟨_, rfl⟩,
    z_dict := PySem.W.mg_none_of X G z_dict,
    z_tuple := PySem.W.mg_none_of X G z_tuple,
    z_sorted := PySem.W.mg_none_of X G z_sorted,
    z_len := PySem.W.mg_none_of X G z_len,
    z_abs := PySem.W.mg_none_of X G z_abs,
    z_int := PySem.W.mg_none_of X G z_int,
    z_range := PySem.W.mg_none_of X G z_range,
    z_isinstance := PySem.W.mg_none_of X G z_isinstance,
    z_bool := PySem.W.mg_none_of X G z_bool,
    z_str := PySem.W.mg_none_of X G z_str,
    z_all := PySem.W.mg_none_of X G z_all,
    z_list := PySem.W.mg_none_of X G z_list,
    z_min := PySem.W.mg_none_of X G z_min,
    z_max := PySem.W.mg_none_of X G z_max }
  exact ⟨PySem.W.fnOf "law" "law" (defArgs s_law) (defBody s_law) (defScope s_law) .none kV_law dc_law pm_law an_law cd_law ct_law, fun s v => .of_eq rfl, fun base _ _ => ok_law T⟩
theorem walk {l : PySem.W.OpenLaw} {q : Program} {loose : List Str} {XP : (Str → Option Value) → Heap → Prop} {YP : World → Heap → Prop} {d : DefRec} {K : Params → PySem.W.Frag} (hn : l.most = some 63) (hdf : d.params.defaults = [])
    (hY : ∀ (w : World) (h : Heap), YP w h → (K w.params).In h)
    (F : ∀ (w : World) (mg : Str → Option Value) (fa : Addr) (h : Heap), (K w.params).In h → h.Ns mainGlobals mg → mg d.name = some (.ref fa) →
      ∃ fd : FuncData, (∀ (s : Shared) (u : Value), BindsTo s fd ⟨[u], []⟩ [("script", u)]) ∧ ∀ base : Heap, (K w.params).In base → base.Ns mainGlobals mg → FnOk l.prog w (K w.params) mg base CX0 9 fa fd ["script"] (spLaw (K w.params))) :
    PySem.W.WalkO q loose XP YP l.row.toRowW d [] (fun f vs => PySem.call f vs) :=
  L2.walk_of (n := 63) (k := 9) (x := "script") (CX := fun _ => CX0) (sp := fun w => spLaw (K w.params)) hn (by decide) hdf ⟨rfl, by decide, by decide⟩ hY F (fun _ _ a ns hl _ hS => ⟨a, ns, rfl, hS, hl, fun _ => rfl⟩) fun _ _ _ _ _ z => z
end Dv
open PySem PySem.W PyProof.Rows in
set_option maxRecDepth 100000 in
set_option maxHeartbeats 0 in
theorem PySem.Challenge.cw_meridian_k48_programs_run_alone_holds : PySem.Challenge.rw_meridian_k48_programs_run_alone.Holds := by
  w_on; o_law; k_head; (case hw => w_witness2)
  k_fill
  refine Dv.walk (l := PySem.Challenge.rw_meridian_k48_programs_run_alone) rfl rfl (fun w h Y => PySem.W.kIn_of Y) ?F
  case F =>
    intro w mg fa h KX G hmg
    refine' Dv.all_mk KX G hmg ?a_advance ?l_advance ?c_advance ?k_advance ?a_run_alone ?l_run_alone ?c_run_alone ?k_run_alone ?a_put_rows ?l_put_rows ?c_put_rows ?k_put_rows ?a__gives_up ?l__gives_up ?c__gives_up ?k__gives_up ?a__new_value ?l__new_value ?c__new_value ?k__new_value ?a__law_cell ?l__law_cell ?c__law_cell ?k__law_cell ?a__law_draws ?l__law_draws ?c__law_draws ?k__law_draws ?a__law_keys ?l__law_keys ?c__law_keys ?k__law_keys ?a__law_operation ?l__law_operation ?c__law_operation ?k__law_operation ?a__law_program ?l__law_program ?c__law_program ?k__law_program ?a__law_like ?l__law_like ?c__law_like ?k__law_like ?a__law_reads ?l__law_reads ?c__law_reads ?k__law_reads ?a__law_changes_key ?l__law_changes_key ?c__law_changes_key ?k__law_changes_key ?a__law_fails ?l__law_fails ?c__law_fails ?k__law_fails ?a__law_becomes ?l__law_becomes ?c__law_becomes ?k__law_becomes ?a__law_step ?l__law_step ?c__law_step ?k__law_step ?a__law_shown ?l__law_shown ?c__law_shown ?k__law_shown ?a__law_alone ?l__law_alone ?c__law_alone ?k__law_alone ?a__law_joined ?l__law_joined ?c__law_joined ?k__law_joined ?a__law_listed ?l__law_listed ?c__law_listed ?k__law_listed ?a_law ?l_law ?c_law ?k_law ?mg_READ_KEY ?l_READ_KEY ?low_READ_KEY ?i_READ_KEY_read ?i_READ_KEY_add ?i_READ_KEY_need ?i_READ_KEY_equal ?i_READ_KEY_copy ?i_READ_KEY_put ?i_READ_KEY_drop ?lit_READ_KEY ?mg_CHANGED_KEY ?l_CHANGED_KEY ?low_CHANGED_KEY ?i_CHANGED_KEY_read ?i_CHANGED_KEY_add ?i_CHANGED_KEY_need ?i_CHANGED_KEY_equal ?i_CHANGED_KEY_copy ?i_CHANGED_KEY_put ?i_CHANGED_KEY_drop ?lit_CHANGED_KEY ?z_dict ?z_tuple ?z_sorted ?z_len ?z_abs ?z_int ?z_range ?z_isinstance ?z_bool ?z_str ?z_all ?z_list ?z_min ?z_max
    (case a_advance => k_is)
    (case a_run_alone => k_is)
    (case a_put_rows => k_is)
    (case a__gives_up => k_is)
    (case a__new_value => k_is)
    (case a__law_cell => k_is)
    (case a__law_draws => k_is)
    (case a__law_keys => k_is)
    (case a__law_operation => k_is)
    (case a__law_program => k_is)
    (case a__law_like => k_is)
    (case a__law_reads => k_is)
    (case a__law_changes_key => k_is)
    (case a__law_fails => k_is)
    (case a__law_becomes => k_is)
    (case a__law_step => k_is)
    (case a__law_shown => k_is)
    (case a__law_alone => k_is)
    (case a__law_joined => k_is)
    (case a__law_listed => k_is)
    (case a_law => k_is)
    (case mg_READ_KEY => k_is)
    (case mg_CHANGED_KEY => k_is)
    (case l_advance => k_is)
    (case c_advance => k_is)
    (case k_advance => k_is)
    (case l_run_alone => k_is)
    (case c_run_alone => k_is)
    (case k_run_alone => k_is)
    (case l_put_rows => k_is)
    (case c_put_rows => k_is)
    (case k_put_rows => k_is)
    (case l__gives_up => k_is)
    (case c__gives_up => k_is)
    (case k__gives_up => k_is)
    (case l__new_value => k_is)
    (case c__new_value => k_is)
    (case k__new_value => k_is)
    (case l__law_cell => k_is)
    (case c__law_cell => k_is)
    (case k__law_cell => k_is)
    (case l__law_draws => k_is)
    (case c__law_draws => k_is)
    (case k__law_draws => k_is)
    (case l__law_keys => k_is)
    (case c__law_keys => k_is)
    (case k__law_keys => k_is)
    (case l__law_operation => k_is)
    (case c__law_operation => k_is)
    (case k__law_operation => k_is)
    (case l__law_program => k_is)
    (case c__law_program => k_is)
    (case k__law_program => k_is)
    (case l__law_like => k_is)
    (case c__law_like => k_is)
    (case k__law_like => k_is)
    (case l__law_reads => k_is)
    (case c__law_reads => k_is)
    (case k__law_reads => k_is)
    (case l__law_changes_key => k_is)
    (case c__law_changes_key => k_is)
    (case k__law_changes_key => k_is)
    (case l__law_fails => k_is)
    (case c__law_fails => k_is)
    (case k__law_fails => k_is)
    (case l__law_becomes => k_is)
    (case c__law_becomes => k_is)
    (case k__law_becomes => k_is)
    (case l__law_step => k_is)
    (case c__law_step => k_is)
    (case k__law_step => k_is)
    (case l__law_shown => k_is)
    (case c__law_shown => k_is)
    (case k__law_shown => k_is)
    (case l__law_alone => k_is)
    (case c__law_alone => k_is)
    (case k__law_alone => k_is)
    (case l__law_joined => k_is)
    (case c__law_joined => k_is)
    (case k__law_joined => k_is)
    (case l__law_listed => k_is)
    (case c__law_listed => k_is)
    (case k__law_listed => k_is)
    (case l_law => k_is)
    (case c_law => k_is)
    (case k_law => k_is)
    (case l_READ_KEY => k_is)
    (case low_READ_KEY => first | rfl | decide | k_is)
    (case i_READ_KEY_read => k_is)
    (case i_READ_KEY_add => k_is)
    (case i_READ_KEY_need => k_is)
    (case i_READ_KEY_equal => k_is)
    (case i_READ_KEY_copy => k_is)
    (case i_READ_KEY_put => k_is)
    (case i_READ_KEY_drop => k_is)
    (case lit_READ_KEY => first | exact ⟨⟨_, _, rfl, rfl⟩, ⟨_, _, rfl, rfl⟩, ⟨_, _, rfl, rfl⟩, ⟨_, _, rfl, rfl⟩, ⟨_, _, rfl, rfl⟩, trivial⟩ | k_is)
    (case l_CHANGED_KEY => k_is)
    (case low_CHANGED_KEY => first | rfl | decide | k_is)
    (case i_CHANGED_KEY_read => k_is)
    (case i_CHANGED_KEY_add => k_is)
    (case i_CHANGED_KEY_need => k_is)
    (case i_CHANGED_KEY_equal => k_is)
    (case i_CHANGED_KEY_copy => k_is)
    (case i_CHANGED_KEY_put => k_is)
    (case i_CHANGED_KEY_drop => k_is)
    (case lit_CHANGED_KEY => first | exact ⟨⟨_, _, rfl, rfl⟩, ⟨_, _, rfl, rfl⟩, ⟨_, _, rfl, rfl⟩, ⟨_, _, rfl, rfl⟩, trivial⟩ | k_is)
    (case z_dict => k_is)
    (case z_tuple => k_is)
    (case z_sorted => k_is)
    (case z_len => k_is)
    (case z_abs => k_is)
    (case z_int => k_is)
    (case z_range => k_is)
    (case z_isinstance => k_is)
    (case z_bool => k_is)
    (case z_str => k_is)
    (case z_all => k_is)
    (case z_list => k_is)
    (case z_min => k_is)
    (case z_max => k_is)
