import PyProof.Rows.All
import Wide.All
import OpenK.AllK
import Wide.FinOn
import HandS.ForExc
import HandS.ForMost
import HandS.IsInst
import HandS.ExcIs
import HandS.Wide
import HandS.CallSlots
import HandS.Property
import HandS.Defaults
import HandS.MakeKwOnly
import HandS.TupAny
import HandS.LawCells
import HandS.Text
import HandS.Iter
import HandS.Dict
import PySem.Challenge.RW_meridian_k61_reader_step_by_step
set_option Elab.async false
set_option linter.all false
set_option maxRecDepth 100000
set_option maxHeartbeats 4000000
namespace Dv
open PySem PySem.Spec PyProof.Rows L2
def top (i : Nat) : Stmt := PySem.Challenge.pw_meridian_k61_reader_step_by_step.main.body.getD i (.Pass ⟨0, 0, 0, 0⟩)
abbrev s_group_of_key : Stmt := (top 9)
theorem sc_group_of_key : FnScope ["cuts", "key", "cut"] ["cuts", "key"] (defScope s_group_of_key) := ⟨rfl, rfl, rfl, by decide +kernel, rfl, by decide +kernel, by decide +kernel⟩
abbrev s_look_time : Stmt := (top 11)
theorem sc_look_time : FnScope ["span"] ["span"] (defScope s_look_time) := ⟨rfl, rfl, rfl, by decide +kernel, rfl, by decide +kernel, by decide +kernel⟩
abbrev s_Reader_init : Stmt := (inClass (top 13) 0)
theorem sc_Reader_init : FnScope ["self", "number", "keys", "cuts"] ["self", "number", "keys", "cuts"] (defScope s_Reader_init) := ⟨rfl, rfl, rfl, by decide +kernel, rfl, by decide +kernel, by decide +kernel⟩
abbrev s_Reader_phase : Stmt := (inClass (top 13) 1)
theorem sc_Reader_phase : FnScope ["self"] ["self"] (defScope s_Reader_phase) := ⟨rfl, rfl, rfl, by decide +kernel, rfl, by decide +kernel, by decide +kernel⟩
abbrev s_Reader_time : Stmt := (inClass (top 13) 2)
theorem sc_Reader_time : FnScope ["self"] ["self"] (defScope s_Reader_time) := ⟨rfl, rfl, rfl, by decide +kernel, rfl, by decide +kernel, by decide +kernel⟩
abbrev s_Reader_number : Stmt := (inClass (top 13) 3)
theorem sc_Reader_number : FnScope ["self"] ["self"] (defScope s_Reader_number) := ⟨rfl, rfl, rfl, by decide +kernel, rfl, by decide +kernel, by decide +kernel⟩
abbrev s_Reader_got : Stmt := (inClass (top 13) 5)
theorem sc_Reader_got : FnScope ["self"] ["self"] (defScope s_Reader_got) := ⟨rfl, rfl, rfl, by decide +kernel, rfl, by decide +kernel, by decide +kernel⟩
abbrev s_Reader_push : Stmt := (inClass (top 13) 6)
theorem sc_Reader_push : FnScope ["self", "span", "key"] ["self", "span"] (defScope s_Reader_push) := ⟨rfl, rfl, rfl, by decide +kernel, rfl, by decide +kernel, by decide +kernel⟩
abbrev s_Reader_receive : Stmt := (inClass (top 13) 7)
theorem sc_Reader_receive : FnScope ["self", "letter", "_", "key", "value"] ["self", "letter"] (defScope s_Reader_receive) := ⟨rfl, rfl, rfl, by decide +kernel, rfl, by decide +kernel, by decide +kernel⟩
abbrev s_Reader__next_key : Stmt := (inClass (top 13) 8)
theorem sc_Reader__next_key : FnScope ["self"] ["self"] (defScope s_Reader__next_key) := ⟨rfl, rfl, rfl, by decide +kernel, rfl, by decide +kernel, by decide +kernel⟩
abbrev s_Span_init : Stmt := (inClass (top 15) 0)
theorem sc_Span_init : FnScope ["self", "low", "high"] ["self", "low", "high"] (defScope s_Span_init) := ⟨rfl, rfl, rfl, by decide +kernel, rfl, by decide +kernel, by decide +kernel⟩
abbrev s_Span_contains : Stmt := (inClass (top 15) 1)
theorem sc_Span_contains : FnScope ["self", "time"] ["self", "time"] (defScope s_Span_contains) := ⟨rfl, rfl, rfl, by decide +kernel, rfl, by decide +kernel, by decide +kernel⟩
abbrev s_Span_is_past : Stmt := (inClass (top 15) 2)
theorem sc_Span_is_past : FnScope ["self", "time"] ["self", "time"] (defScope s_Span_is_past) := ⟨rfl, rfl, rfl, by decide +kernel, rfl, by decide +kernel, by decide +kernel⟩
abbrev s__law_cell : Stmt := (top 17)
theorem sc__law_cell : FnScope ["script", "k"] ["script", "k"] (defScope s__law_cell) := ⟨rfl, rfl, rfl, by decide +kernel, rfl, by decide +kernel, by decide +kernel⟩
abbrev s__law_draws : Stmt := (top 18)
theorem sc__law_draws : FnScope ["cell", "many", "limit", "out", "k", "mixed"] ["cell", "many", "limit"] (defScope s__law_draws) := ⟨rfl, rfl, rfl, by decide +kernel, rfl, by decide +kernel, by decide +kernel⟩
abbrev s__law_keys : Stmt := (top 19)
theorem sc__law_keys : FnScope ["cell", "letters", "numbers", "keys", "k", "head", "out", "key"] ["cell"] (defScope s__law_keys) := ⟨rfl, rfl, rfl, by decide +kernel, rfl, by decide +kernel, by decide +kernel⟩
abbrev s__law_push : Stmt := (top 20)
theorem sc__law_push : FnScope ["m", "span", "key", "fence"] ["m", "span"] (defScope s__law_push) := ⟨rfl, rfl, rfl, by decide +kernel, rfl, by decide +kernel, by decide +kernel⟩
abbrev s__law_letter : Stmt := (top 21)
theorem sc__law_letter : FnScope ["cell", "m", "keys", "key"] ["cell", "m", "keys"] (defScope s__law_letter) := ⟨rfl, rfl, rfl, by decide +kernel, rfl, by decide +kernel, by decide +kernel⟩
abbrev s_law : Stmt := (top 22)
theorem sc_law : FnScope ["script", "first", "keys", "fences", "chosen", "number", "reader", "m", "true", "k", "cell", "span", "letter", "handed"] ["script"] (defScope s_law) := ⟨rfl, rfl, rfl, by decide +kernel, rfl, by decide +kernel, by decide +kernel⟩
theorem kit_own {K : PySem.W.Frag} {C E : Addr} {b : Bool} (h : PySem.W.subIn K (.ref C) (.ref E) = some b) (hs : PySem.W.subIn K (.ref C) (.ref C) = some true) (hc : PySem.W.isClsIn K E = true) (ht : PySem.W.typeIn K (.ref E) = some (.type "type")) :
    PySem.W.kitOne K (.ref C) (.ref E) = some b := by
  unfold PySem.W.kitOne
  by_cases e : (Value.ref C == Value.ref E) = true
  · rw [if_pos e]
    have e' : Value.ref C = Value.ref E := by simpa using e
    rw [← e', hs] at h
    exact h
  · rw [if_neg e]
    show (if ((PySem.W.clsIn K E).isSome && PySem.W.typeIn K (.ref E) == some (.type "type")) = true then PySem.W.subIn K (.ref C) (.ref E) else none) = some b
    have hc' : (PySem.W.clsIn K E).isSome = true := hc
    rw [hc', ht, if_pos (by rfl)]
    exact h
theorem kit_ty_sub {K : PySem.W.Frag} {C : Addr} {T : String} {b : Bool} (h : PySem.W.subIn K (.ref C) (.type T) = some b) (hm : PySem.W.kitMeta T = true) : PySem.W.kitOne K (.ref C) (.type T) = some b := by
  unfold PySem.W.kitOne
  rw [if_neg (by simp)]
  show (if PySem.W.kitMeta T = true then PySem.W.subIn K (.ref C) (.type T) else none) = some b
  rw [if_pos hm]
  exact h
/-- isinstance(e, c), isinstance(e, (c1, ..)): e the exception that the suite holds, of whatever class -/
def rIsG (K : PySem.W.Frag) (cls : Value) (d : Option Addr) (a : Addr) : List V → Hp → VK → Prop := fun xs H Q => ∃ (D : Addr) (b : Bool), cls = .ref D ∧ d = none ∧ ExcC K D ∧
  ((∃ (c : V) (cv : Value), xs = [.ref a, c] ∧ ClsV c cv ∧ PySem.W.kitOne K (.ref D) cv = some b ∧ Q (.bl b) H) ∨
   ∃ (tp : Addr) (cs : List V) (us : List Value), xs = [.ref a, .ref tp] ∧ H tp = some (.tup cs) ∧ Paired ClsV cs us ∧ PySem.W.kitAny K (.ref D) us = some b ∧ Q (.bl b) H)
theorem call_isG {X : Cx} {a : Addr} {cls : Value} {d : Option Addr} {oe : Obj} {pn : List (Addr × Obj)} (hz : Zc cls d oe) (hf : ∃ vs, oe.data = .fields vs) : CallR (X.suite a ((a, oe) :: pn)) (.builtin "isinstance") (rIsG X.K cls d a) := by
  intro pins s σ H xs us Q I r h
  obtain ⟨D, b, rfl, rfl, C, h⟩ := h
  rcases h with ⟨c, cv, rfl, hcv, e, q⟩ | ⟨tp, cs, ws, rfl, hT, k, e, q⟩
  · exact call_isE C hz hf pins s σ H _ us Q I r ⟨c, cv, b, rfl, fun u ru => hcv.eq ru, e, q⟩
  · obtain ⟨u1, u2, rfl, r1, r2⟩ := vals2 r
    cases (show u2 = Value.ref tp from r2)
    cases (show u1 = Value.ref a from r1)
    obtain ⟨hget, _⟩ := I.pin (a, oe) (List.mem_append.mpr (.inl List.mem_cons_self))
    obtain ⟨vs, hv⟩ := hf
    have J : PySem.W.InstAt s.heap a oe D none := by
      obtain ⟨oc, od, oda, osl⟩ := oe
      obtain ⟨h1, h2⟩ := hz
      dsimp only at h1 h2 hv
      subst h1 h2 hv
      exact ⟨hget, rfl, rfl, trivial⟩
    obtain ⟨_, its, rv, o, h1, h2, n, h3⟩ := (show ObjOk X.prog X.w H s.heap tp (.tup cs) from I.hok tp _ hT)
    have e3 := ClsV.all k rv
    subst e3
    obtain ⟨oc, od, dt, sl⟩ := o
    simp only at h2 h3
    subst h2 h3
    exact PySem.W.kia_tup (PySem.W.handS_kitx_exc C.hg C.hk C.hs C.hd C.ha C.hn C.ht C.hm) I.kIn J h1 e (fun z => nomatch z) fun tk => ⟨.bl b, H, I.kept (t' := tk) fun _ _ z => z, rfl, q⟩
/-- the room that == of data wants -/
theorem hu64_of {A : Around} {k : Nat} (hr : Room k A) : A.units + 64 < cLine := Nat.lt_of_le_of_lt (Nat.le_refl _) hr.units
theorem same_new {H : Hp} {p : Addr} {o : HO} (h : H p = none) : Same H (upd H p o) := fun b x e => by
  rw [upd_ne (ne_of_none e h)]
  exact e
/-- an object unknown before may change -/
theorem same_mut {H H1 : Hp} {p : Addr} {o : HO} (s : Same H H1) (h : H p = none) : Same H (upd H1 p o) := fun b x e => by
  rw [upd_ne (ne_of_none e h)]
  exact s b x e
theorem sql_new {K : PySem.W.Frag} {H : Hp} {p : Addr} {xs : List V} : SqL K (upd H p (.lst xs)) p xs := SqL.of upd_same
theorem same_dp {K : PySem.W.Frag} {H H' : Hp} (s : Same H H') : ∀ (d : PyData) (v : V), Dp K H v d → Dp K H' v d := by
  intro d v h
  exact Dp.rec (motive_1 := fun v d _ => Dp K H' v d) (motive_2 := fun vs ds _ => DpAll K H' vs ds) .non (fun b => .bl b) (fun i => .int i) (fun x => .str x)
    (fun h1 _ ih => .lst (s.seq h1) ih) (fun h1 _ ih => .tup (by rcases h1 with h1 | h1
                                                                 · rcases h1 with h1 | ⟨o, h1⟩
                                                                   · exact .inl (.inl (s _ _ h1))
                                                                   · exact .inl (.inr ⟨o, s _ _ h1⟩)
                                                                 · exact .inr h1) ih) .nil (fun _ _ h1 h2 => .cons h1 h2) h
/-! lists of ints as data -/
def dInts (ns : List Int) : PyData := .list (ns.map PyData.int)
theorem dp_all_ints {K : PySem.W.Frag} {H : Hp} : ∀ ns : List Int, DpAll K H (ns.map V.int) (ns.map PyData.int)
  | [] => .nil
  | n :: r => .cons (.int n) (dp_all_ints r)
theorem dp_ints {K : PySem.W.Frag} {H : Hp} {a : Addr} {ns : List Int} (h : SqL K H a (ns.map V.int)) : Dp K H (.ref a) (dInts ns) := .lst h (dp_all_ints ns)
theorem eqv_ints : ∀ ns ms : List Int, PyData.eqvAll (ns.map PyData.int) (ms.map PyData.int) = decide (ns = ms)
  | [], [] => rfl
  | [], _ :: _ => rfl
  | _ :: _, [] => rfl
  | n :: r, m :: t => by
    show (PyData.eqv (.int n) (.int m) && PyData.eqvAll (r.map PyData.int) (t.map PyData.int)) = _
    rw [eqv_ints r t]
    show ((n == m) && decide (r = t)) = _
    by_cases h : n = m <;> by_cases h2 : r = t <;> simp [h, h2]
theorem eqv_dInts (ns ms : List Int) : PyData.eqv (dInts ns) (dInts ms) = decide (ns = ms) := eqv_ints ns ms
theorem canLay_ints : ∀ ns : List Int, (PyData.list (ns.map PyData.int)).canLay0 = true → True := fun _ _ => trivial
theorem ifT {c : Bool} {A B : Prop} (hc : c = true) (h : A) : if c = true then A else B := by
  rw [if_pos hc]
  exact h
theorem ifF {c : Bool} {A B : Prop} (hc : c = false) (h : B) : if c = true then A else B := by
  rw [hc, if_neg Bool.false_ne_true]
  exact h
/-- both ways of an if over a decided comparison -/
theorem iteD {p : Prop} [Decidable p] {A B : Prop} (h1 : p → A) (h2 : ¬ p → B) : if decide p = true then A else B := by
  by_cases h : p
  · rw [if_pos (decide_eq_true h)]
    exact h1 h
  · rw [if_neg (by simpa using h)]
    exact h2 h
theorem iteN {p : Prop} [Decidable p] {A B : Prop} (h1 : ¬ p → A) (h2 : p → B) : if (!decide p) = true then A else B := by
  by_cases h : p
  · rw [if_neg (by simpa using h)]
    exact h2 h
  · rw [if_pos (by simpa using h)]
    exact h1 h
theorem yes_if {σ : L2.St} {H : Hp} {A B : Hp → Prop} (h : A H) : tYes σ H (fun b H3 => if b = true then A H3 else B H3) := by
  show (if true = true then A H else B H)
  rw [if_pos rfl]
  exact h
abbrev Li (H : Hp) (p : Addr) (ns : List Int) : Prop := H p = some (.lst (ns.map V.int))
theorem szl {n : Nat} (h : n ≤ 1000000) : n < sizeLine := Nat.lt_of_le_of_lt h (by decide)
theorem szle {n : Nat} (h : n ≤ 1000000) : n ≤ sizeLine := Nat.le_of_lt (szl h)
theorem mem_int {ns : List Int} {i : Nat} {x : V} (hx : (ns.map V.int)[i]? = some x) : ∃ n, ns[i]? = some n ∧ x = V.int n := by
  rw [List.getElem?_map] at hx
  cases e : ns[i]? with
  | none => rw [e] at hx; cases hx
  | some u => rw [e] at hx; exact ⟨u, rfl, (Option.some.inj hx).symm⟩
theorem li_push {H : Hp} {p : Addr} {ns : List Int} {n : Int} : Li (upd H p (.lst (ns.map V.int ++ [V.int n]))) p (ns ++ [n]) := by
  show upd _ _ _ _ = _
  rw [upd_same, List.map_append]
  rfl
theorem take_succ {α : Type} {l : List α} {i : Nat} {x : α} (h : l[i]? = some x) : l.take (i + 1) = l.take i ++ [x] := by
  rw [List.take_add_one, h]
  rfl
/-! slices of lists -/
theorem cutV_map {α : Type} (f : α → V) (xs : List α) (lo hi : Option Int) : cutV (xs.map f) lo hi = ((xs.drop (HT.sIx xs.length 0 lo)).take (HT.sIx xs.length xs.length hi - HT.sIx xs.length 0 lo)).map f := by
  unfold cutV
  rw [List.length_map, List.map_take, List.map_drop]
theorem cut_to (xs : List V) (k : Nat) : cutV xs none (some (k : Int)) = xs.take k := by
  unfold cutV
  rw [HT.sIx_none, HT.sIx_nat, List.drop_zero, Nat.sub_zero]
  by_cases h : k ≤ xs.length
  · rw [Nat.min_eq_left h]
  · rw [Nat.min_eq_right (by omega), List.take_of_length_le (Nat.le_refl _), List.take_of_length_le (by omega)]
theorem cut_from (xs : List V) (k : Nat) : cutV xs (some (k : Int)) none = xs.drop k := by
  unfold cutV
  rw [HT.sIx_none, HT.sIx_nat]
  by_cases h : k ≤ xs.length
  · rw [Nat.min_eq_left h]
    exact List.take_of_length_le (by rw [List.length_drop]; exact Nat.le_refl _)
  · rw [Nat.min_eq_right (by omega), List.drop_of_length_le (by omega), List.take_nil, List.drop_of_length_le (by omega)]
theorem cut_fromto (xs : List V) (i j : Nat) : cutV xs (some (i : Int)) (some (j : Int)) = (xs.drop i).take (j - i) := by
  unfold cutV
  rw [HT.sIx_nat, HT.sIx_nat]
  by_cases h : i ≤ xs.length
  · rw [Nat.min_eq_left h]
    by_cases h2 : j ≤ xs.length
    · rw [Nat.min_eq_left h2]
    · rw [Nat.min_eq_right (by omega), List.take_of_length_le (by rw [List.length_drop]; exact Nat.le_refl _), List.take_of_length_le (by rw [List.length_drop]; omega)]
  · rw [show xs.drop (min i xs.length) = [] from List.drop_of_length_le (by omega), List.take_nil, List.drop_of_length_le (by omega), List.take_nil]
theorem sIx_neg (n d k : Nat) (h : 0 < k) : HT.sIx n d (some (-(k : Int))) = n - k := by
  show (if -(k : Int) < 0 then (-(k : Int) + (n : Int)).toNat else _) = _
  rw [if_pos (by omega)]
  omega
theorem cut_ton (xs : List V) (k : Nat) (h : 0 < k) : cutV xs none (some (-(k : Int))) = xs.take (xs.length - k) := by
  unfold cutV
  rw [HT.sIx_none, sIx_neg _ _ _ h, List.drop_zero, Nat.sub_zero]
theorem cut_fromn (xs : List V) (k : Nat) (h : 0 < k) : cutV xs (some (-(k : Int))) none = xs.drop (xs.length - k) := by
  unfold cutV
  rw [HT.sIx_none, sIx_neg _ _ _ h]
  exact List.take_of_length_le (by rw [List.length_drop]; exact Nat.le_refl _)

/-! own rules: methods and makings whose errors depend on the slots (for a try), keywords, an own __contains__ -/
section
variable {X : Cx} {CX : CXT} {k n : Nat} {C f : Addr} {fd : FuncData} {ps ks : List Str} {sp : Sp} {E : L2.St → XK} {dvs : List V} {ds : List Value} {o e : Expr} {es : List Expr} {kws : List Keyword} {m x : Str} {p apos pos : Pos} {ta : TE} {t tk : TA}
  {g : List Value → List Value → List Value} {gV : List V → List V → List V}
theorem run_at {pins : List (Addr × Obj)} {σ : L2.St} {H : Hp} {s : Shared} {Q : VK} {E : XK} {us0 us : List Value} {kw : List (Str × Value)} {vs : List V} (F : FnOk X.prog X.w X.K X.mg X.base CX k f fd ps sp) (hr : Room k X.A) (hx : PassesAt CX X σ E)
    (I : Inv X pins σ H s) (hb : BindsTo s fd ⟨us0, kw⟩ (ps.zip us)) (r : Vals vs us) (h : sp vs H Q E) : wpAny (model X.prog X.w) X.A (call (.ref f) us0 kw) (EP X pins σ Q) X.xe s := by
  refine wpAny_call (codeAny_mono (F.run X.A X.stack s H ⟨us0, kw⟩ us vs Q E hr I.env0 hb r h) fun r s' hq => ?_)
  cases r with
  | error er => exact hx pins H s er s' I hq
  | ok fl => cases fl with
    | ret u => exact I.after hq
    | next => exact hq.elim
    | brk => exact hq.elim
    | cont => exact hq.elim
/-- o.m(e, .., k = v, ..) -/
def tMA (C : Addr) (m : Str) (n l : Nat) (sp : Sp) (gV : List V → List V → List V) (E : L2.St → XK) (ta : TE) (t tk : TA) : TE := fun σ H Q => ta σ H fun x H1 => ∃ a dx fs, x = .ref a ∧ H1 a = some (.ins C dx fs) ∧ fs.lookup m = none ∧
  t σ H1 fun vs H2 => tk σ H2 fun zs H3 => vs.length = n ∧ zs.length = l ∧ sp (gV (x :: vs) zs) H3 Q (E σ)
theorem pe_mK {pl : Sem Bool} (he : PE X o ta) (c : Cls X.K C) (hm : Meth X.K C m f) (F : FnOk X.prog X.w X.K X.mg X.base CX k f fd ps sp) (hr : Room k X.A) (hb : KBn X.K fd ps (n + 1) ks g gV) (hx : ∀ σ, PassesAt CX X σ (E σ)) (ha : PA X (e :: es) t) (hkw : PK X kws tk)
    (hall : (backToKw pos (keywordEach kws X.env)).all (·.1.isSome) = true := by rfl) (hks : (backToKw pos (keywordEach kws X.env)).filterMap (·.1) = ks := by rfl)
    (hst : starEach (e :: es) X.env = (false, eval e X.env) :: starEach es X.env := by rfl) (hpl : ((backTo pos (starEach (e :: es) X.env)).any (·.1) || (backToKw pos (keywordEach kws X.env)).any (·.1.isNone)) = false := by rfl)
    (ht : eval (.Call (.Attribute o m apos) (e :: es) kws pos) X.env = (do
      let ov ← eval o X.env
      standAt apos.atName
      let (f, first) ← holding [ov] (getMethod ov m pl)
      callWith pos f first (backTo pos (starEach (e :: es) X.env)) (backToKw pos (keywordEach kws X.env))) := by rfl) :
    PE X (.Call (.Attribute o m apos) (e :: es) kws pos) (tMA C m n ks.length sp gV E ta t tk) := by
  refine ⟨fun pins s σ H Q I h => PySem.W.methodCall_KW (pl := pl) (thn (he.run pins s σ H _ I h) fun u s1 ⟨x, H1, I1, rx, a, dx, fs, ex, ea, l, q⟩ => ?_) ht⟩
  subst ex
  obtain rfl : u = Value.ref a := rx
  refine getmeth_ok I1 ea c hm l (PySem.W.callWith_KW (first := [.ref a]) (h₀ := X.base) I.ok.mod.kin hm.kp hall (thn (ha.run pos pins s1 σ H1 _ I1 q) fun us s2 ⟨vs, H2, I2, r, q2⟩ => ?_) hpl hst)
  refine thn (hkw.run pos pins s2 σ H2 _ I2 q2) fun ws s3 ⟨zs, H3, I3, rz, l1, l2, q3⟩ => ⟨I3.kIn, ?_⟩
  rw [hks]
  have r1 : Vals (V.ref a :: vs) (Value.ref a :: us) := .cons rfl r
  exact run_at F hr (hx σ) I3 (hb.to s3 (Value.ref a :: us) ws I3.kIn (by rw [List.length_cons, ← r.length, l1]) (rz.length.symm.trans l2)) (hb.rel r1 rz) q3
theorem pe_mK0 {pl : Sem Bool} (he : PE X o ta) (c : Cls X.K C) (hm : Meth X.K C m f) (F : FnOk X.prog X.w X.K X.mg X.base CX k f fd ps sp) (hr : Room k X.A) (hb : KBn X.K fd ps 1 ks g gV) (hx : ∀ σ, PassesAt CX X σ (E σ)) (hkw : PK X kws tk)
    (hall : (backToKw pos (keywordEach kws X.env)).all (·.1.isSome) = true := by rfl) (hks : (backToKw pos (keywordEach kws X.env)).filterMap (·.1) = ks := by rfl)
    (hpl : ((backTo pos (starEach [] X.env)).any (·.1) || (backToKw pos (keywordEach kws X.env)).any (·.1.isNone)) = false := by rfl)
    (ht : eval (.Call (.Attribute o m apos) [] kws pos) X.env = (do
      let ov ← eval o X.env
      standAt apos.atName
      let (f, first) ← holding [ov] (getMethod ov m pl)
      callWith pos f first (backTo pos (starEach [] X.env)) (backToKw pos (keywordEach kws X.env))) := by rfl) :
    PE X (.Call (.Attribute o m apos) [] kws pos) (tMA C m 0 ks.length sp gV E ta tNil tk) := by
  refine ⟨fun pins s σ H Q I h => PySem.W.methodCall_KW (pl := pl) (thn (he.run pins s σ H _ I h) fun u s1 ⟨x, H1, I1, rx, a, dx, fs, ex, ea, l, q⟩ => ?_) ht⟩
  subst ex
  obtain rfl : u = Value.ref a := rx
  refine getmeth_ok I1 ea c hm l (PySem.W.callWith_KW0 (first := [.ref a]) (h₀ := X.base) I.ok.mod.kin hm.kp hall (thn (hkw.run pos pins s1 σ H1 _ I1 q) fun ws s3 ⟨zs, H3, I3, rz, l1, l2, q3⟩ => ⟨I3.kIn, ?_⟩) hpl)
  rw [hks]
  have r1 : Vals ([V.ref a]) ([Value.ref a]) := .cons rfl .nil
  exact run_at F hr (hx σ) I3 (hb.to s3 [Value.ref a] ws I3.kIn rfl (rz.length.symm.trans l2)) (hb.rel r1 rz) q3
/-- o.m(e, ..), the wish of errors by the slots -/
def tMS (C : Addr) (m : Str) (sp : Sp) (dvs : List V) (E : L2.St → XK) (ta : TE) (t : TA) : TE := fun σ H Q => ta σ H fun x H1 => ∃ a dx fs, x = .ref a ∧ H1 a = some (.ins C dx fs) ∧ fs.lookup m = none ∧ t σ H1 fun vs H2 => sp (x :: (vs ++ dvs)) H2 Q (E σ)
theorem pe_mS {pl : Sem Bool} (he : PE X o ta) (c : Cls X.K C) (hm : Meth X.K C m f) (F : FnOk X.prog X.w X.K X.mg X.base CX k f fd ps sp) (hr : Room k X.A) (hb : Binds X.K fd ps ds) (hd : Vals dvs ds) (hx : ∀ σ, PassesAt CX X σ (E σ)) (ha : PA X (e :: es) t)
    (hst : starEach (e :: es) X.env = (false, eval e X.env) :: starEach es X.env := by rfl) (hpl : (backTo pos (starEach es X.env)).any (·.1) = false := by rfl)
    (ht : eval (.Call (.Attribute o m apos) (e :: es) [] pos) X.env = (do
      let ov ← eval o X.env
      standAt apos.atName
      let (f, first) ← holding [ov] (getMethod ov m pl)
      callWith pos f first (backTo pos (starEach (e :: es) X.env)) (backToKw pos (keywordEach [] X.env))) := by rfl) :
    PE X (.Call (.Attribute o m apos) (e :: es) [] pos) (tMS C m sp dvs E ta t) := by
  refine ⟨fun pins s σ H Q I h => PySem.W.methodCall_KW (pl := pl) (thn (he.run pins s σ H _ I h) fun u s1 ⟨x, H1, I1, rx, a, dx, fs, ex, ea, l, q⟩ => ?_) ht⟩
  subst ex
  obtain rfl : u = Value.ref a := rx
  refine getmeth_ok I1 ea c hm l (PySem.W.callWith_K (first := [.ref a]) (h₀ := X.base) I.ok.mod.kin hm.kp (thn (ha.run pos pins s1 σ H1 _ I1 q) fun us s2 ⟨vs, H2, I2, r, q2⟩ => ⟨I2.kIn, ?_⟩) hst hpl)
  have r2 : Vals (V.ref a :: (vs ++ dvs)) (Value.ref a :: us ++ ds) := .cons rfl (r.append hd)
  have hl : (Value.ref a :: us ++ ds).length = ps.length := by rw [← r2.length]; exact F.len _ _ _ _ q2
  exact run_at (us0 := Value.ref a :: us) F hr (hx σ) I2 (hb s2 (Value.ref a :: us) I2.kIn hl) r2 q2
theorem pe_mS0 {pl : Sem Bool} (he : PE X o ta) (c : Cls X.K C) (hm : Meth X.K C m f) (F : FnOk X.prog X.w X.K X.mg X.base CX k f fd ps sp) (hr : Room k X.A) (hb : Binds X.K fd ps ds) (hd : Vals dvs ds) (hx : ∀ σ, PassesAt CX X σ (E σ))
    (ht : eval (.Call (.Attribute o m apos) [] [] pos) X.env = (do
      let ov ← eval o X.env
      standAt apos.atName
      let (f, first) ← holding [ov] (getMethod ov m pl)
      callWith pos f first (backTo pos (starEach [] X.env)) (backToKw pos (keywordEach [] X.env))) := by rfl) :
    PE X (.Call (.Attribute o m apos) [] [] pos) (tMS C m sp dvs E ta tNil) := by
  refine ⟨fun pins s σ H Q I h => PySem.W.methodCall_KW (pl := pl) (thn (he.run pins s σ H _ I h) fun u s1 ⟨x, H1, I1, rx, a, dx, fs, ex, ea, l, q⟩ => ?_) ht⟩
  subst ex
  obtain rfl : u = Value.ref a := rx
  have r2 : Vals (V.ref a :: ([] ++ dvs)) (Value.ref a :: [] ++ ds) := .cons rfl hd
  have hl : (Value.ref a :: [] ++ ds).length = ps.length := by rw [← r2.length]; exact F.len _ _ _ _ q
  refine getmeth_ok I1 ea c hm l (PySem.W.callWith_K0 (first := [.ref a]) I1.kIn hm.kp (run_at (us0 := [Value.ref a]) F hr (hx σ) I1 (hb s1 [Value.ref a] I1.kIn hl) r2 q))
/-- C(e, ..), the wish of errors by the slots -/
def tKS (C : Addr) (sp : Sp) (dvs : List V) (E : L2.St → XK) (t : TA) : TE := fun σ H Q => t σ H fun vs H1 => ∀ x dx, H1 x = none → H1 dx = none → dx ≠ x →
  sp (.ref x :: (vs ++ dvs)) (upd (upd H1 dx (.own x)) x (.ins C dx [])) (fun v H2 => v = .non ∧ Q (.ref x) H2) (E σ)
theorem pe_kS (M : Mk X.K C f) (F : FnOk X.prog X.w X.K X.mg X.base CX k f fd ps sp) (hr : Room (k + 1) X.A) (hg : Gl X x) (hm : X.mg x = some (.ref C)) (hb : Binds X.K fd ps ds) (hd : Vals dvs ds) (hx : ∀ σ, PassesAt CX X σ (E σ)) (ha : PA X (e :: es) t)
    (hdb : (x == ("__debug__" : Str)) = false := by decide) (he : starEach (e :: es) X.env = (false, eval e X.env) :: starEach es X.env := by rfl) (hpl : (backTo pos (starEach es X.env)).any (·.1) = false := by rfl) :
    PE X (.Call (.Name x p) (e :: es) [] pos) (tKS C sp dvs E t) := by
  refine ⟨fun pins s σ H Q I h => wpAny_Call_Name_kw (ld_glob I hg hm (PySem.W.callWith_K (h₀ := X.base) I.ok.mod.kin M.kp (thn (ha.run pos pins s σ H _ I h) fun us s1 ⟨vs, H1, I1, r, q⟩ => ⟨I1.kIn, ?_⟩) he hpl) hdb)⟩
  have hq := q (s1.heap.objs.size + 1) s1.heap.objs.size (I1.hok.fresh (Nat.le_succ _)) (I1.hok.fresh (Nat.le_refl _)) (Nat.ne_of_lt (Nat.lt_succ_self _))
  have I2 := Inv.made (C := C) I1
  have r2 : Vals (V.ref (s1.heap.objs.size + 1) :: (vs ++ dvs)) (Value.ref (s1.heap.objs.size + 1) :: us ++ ds) := .cons rfl (r.append hd)
  have hl : (Value.ref (s1.heap.objs.size + 1) :: us ++ ds).length = ps.length := by rw [← r2.length]; exact F.len _ _ _ _ hq
  refine wpAny_call (make_map (f := f) I1.kIn M.makes M.init (beq_iff_eq.mp M.fn) (codeAny_mono (F.run _ X.stack _ _ ⟨Value.ref (s1.heap.objs.size + 1) :: us, []⟩ (Value.ref (s1.heap.objs.size + 1) :: us ++ ds) _ _ (E σ) (hr.make C us [])
    (I2.env0.make C us []) (hb _ (Value.ref (s1.heap.objs.size + 1) :: us) I2.kIn hl) r2 hq) fun r s' hz => ?_))
  cases r with
  | error er => exact hx σ pins _ _ er s' I2 hz
  | ok fl => cases fl with
    | ret u =>
      obtain ⟨v, H', I3, rv, ev, q3⟩ := I2.after hz
      subst ev
      exact ⟨rv, ⟨V.ref (s1.heap.objs.size + 1), H', I3, rfl, q3⟩⟩
    | next => exact hz.elim
    | brk => exact hz.elim
    | cont => exact hz.elim
theorem passAll {X : Cx} (σ : L2.St) : PassesAt (L2.CX X.prog X.w) X σ E0 := fun pins H s er s' I h => passL pins σ H s er s' I h
/-- y in o, o of a class with its own __contains__ -/
def rInOwn (C : Addr) (sp : Sp) (E : XK) (neg : Bool) : R2 := fun y x H Q => ∃ a dx fs, x = .ref a ∧ H a = some (.ins C dx fs) ∧ sp [.ref a, y] H (fun v H' => ∃ b : Bool, v = .bl b ∧ Q (.bl (b != neg)) H') E
theorem has_own {pins : List (Addr × Obj)} {σ : L2.St} {H : Hp} {s : Shared} {E : XK} {a dx : Addr} {fs : List (Str × V)} {y : V} {v : Value} {Q : Bool → Hp → Prop} (c : Cls X.K C) (hm : Meth X.K C "__contains__" f) (F : FnOk X.prog X.w X.K X.mg X.base CX k f fd ps sp) (hr : Room k X.A)
    (hb : Binds X.K fd ps []) (hx : Passes CX X E) (I : Inv X pins σ H s) (ea : H a = some (.ins C dx fs)) (ry : RelV y v) (h : sp [.ref a, y] H (fun z H' => ∃ b : Bool, z = .bl b ∧ Q b H') E) :
    wpAny (model X.prog X.w) X.A (contains (.ref a) v) (fun b s' => ∃ H', Inv X pins σ H' s' ∧ Q b H') X.xe s := by
  obtain ⟨mA, O, _⟩ := ins_get I.hok ea
  obtain ⟨od, J, _⟩ := O.look
  unfold contains
  refine wpAny_holding (wpAny_bind (wpAny_bind (J.type.here ((PySem.W.looks_findIn I.kIn hm.at_).here ?_))))
  rw [if_neg (by simp)]
  refine wpAny_bind (PySem.W.unlessNone_K I.kIn J hm.at_ hm.fn (wpAny_mono (run_fn (us := [.ref a, v]) (vs := [.ref a, y]) F hr hb .nil hx I (.cons rfl (.cons ry .nil)) h) (fun u s' hu => ?_) fun _ _ z => z))
  obtain ⟨z, H', I', rz, b, rfl, q⟩ := hu
  obtain rfl : u = Value.bool b := rz
  exact wpAny_truthy_bool ⟨H', I', q⟩
theorem op_inOwn {E : XK} (c : Cls X.K C) (hm : Meth X.K C "__contains__" f) (F : FnOk X.prog X.w X.K X.mg X.base CX k f fd ps sp) (hr : Room k X.A) (hb : Binds X.K fd ps []) (hx : Passes CX X E) : OpR X (compareOp .In) (rInOwn C sp E false) := by
  intro pins s σ H y x v u Q I ry rx h
  obtain ⟨a, dx, fs, rfl, ea, h⟩ := h
  obtain rfl : u = Value.ref a := rx
  refine wpAny_bind (wpAny_mono (has_own (Q := fun b H' => Q (.bl b) H') c hm F hr hb hx I ea ry (by simpa using h)) (fun b s' hz => ?_) fun _ _ z => z)
  obtain ⟨H', I', q⟩ := hz
  exact wpAny_pure ⟨.bl b, H', I', rfl, q⟩
theorem op_notInOwn {E : XK} (c : Cls X.K C) (hm : Meth X.K C "__contains__" f) (F : FnOk X.prog X.w X.K X.mg X.base CX k f fd ps sp) (hr : Room k X.A) (hb : Binds X.K fd ps []) (hx : Passes CX X E) : OpR X (compareOp .NotIn) (rInOwn C sp E true) := by
  intro pins s σ H y x v u Q I ry rx h
  obtain ⟨a, dx, fs, rfl, ea, h⟩ := h
  obtain rfl : u = Value.ref a := rx
  refine wpAny_bind (wpAny_mono (has_own (Q := fun b H' => Q (.bl (!b)) H') c hm F hr hb hx I ea ry (by simpa using h)) (fun b s' hz => ?_) fun _ _ z => z)
  obtain ⟨H', I', q⟩ := hz
  exact wpAny_pure ⟨.bl (!b), H', I', rfl, q⟩
end
/-! the same rules with K named (in comprehensions and trys the context is a bound one) -/
section
variable {X : Cx} {K : PySem.W.Frag}
theorem pe_fldK {e : Expr} {ta : TE} {f : Str} {pos : Pos} (h : X.K = K) (he : PE X e ta) (hb : attributeBase e f X.env (eval e X.env) = eval e X.env) : PE X (.Attribute e f pos) (tFld K ta f) := h ▸ pe_fld he hb
theorem ixK {r : PySem.W.Frag → V → V → Hp → VK → Prop} (h : X.K = K) (q : IxR X (r X.K)) : IxR X (r K) := h ▸ q
theorem slK {r : PySem.W.Frag → V → Option Int → Option Int → Hp → VK → Prop} (h : X.K = K) (q : SlR X (r X.K)) : SlR X (r K) := h ▸ q
theorem opK {f : Value → Value → Sem Value} {r : PySem.W.Frag → R2} (h : X.K = K) (q : OpR X f (r X.K)) : OpR X f (r K) := h ▸ q
theorem callK {v : Value} {r : PySem.W.Frag → List V → Hp → VK → Prop} (h : X.K = K) (q : CallR X v (r X.K)) : CallR X v (r K) := h ▸ q
def rLenK (K : PySem.W.Frag) : List V → Hp → VK → Prop := fun xs H Q => ∃ x n, xs = [x] ∧ LenV K x H n ∧ Q (.int n) H
def rListK (K : PySem.W.Frag) : List V → Hp → VK → Prop := fun xs H Q => ∃ p ys, xs = [.ref p] ∧ (SqL K H p ys ∨ SqT K H p ys) ∧ ∀ l, H l = none → Q (.ref l) (upd H l (.lst ys))
end
/-- what the top says of an own class without errors -/
structure ClsT (K : PySem.W.Frag) (mg : Str → Option Value) (nm : Str) (C : Addr) : Prop where
  cl : Cls K C
  mgC : mg nm = some (.ref C)
  ha : PySem.W.findIn K (.ref C) "__class__" = some (some (.builtin "object.__class__"))
  hn : PySem.W.specialIn K (.builtin "object.__class__") "__get__" = some (some (.builtin "getset_descriptor.__get__"))
  ht : PySem.W.takesIn K (.builtin "object.__class__") = some true
  hm : PySem.W.mroIn K C (.type "object") = some true
theorem kit_self {K : PySem.W.Frag} {t : Value} (h : (t == t) = true) : PySem.W.kitOne K t t = some true := by
  unfold PySem.W.kitOne
  rw [if_pos h]
theorem ClsT.ty {K : PySem.W.Frag} {mg : Str → Option Value} {nm : Str} {C : Addr} (c : ClsT K mg nm C) {H : Hp} {a dx : Addr} {fs : List (Str × V)} (e : H a = some (.ins C dx fs)) : TyX K H (.ref a) (.ref C) := .base (.ins e c.cl c.ha c.hn c.ht c.hm)
/-! one rule or another, by the proof's choice -/
theorem pe_either {X : Cx} {e : Expr} {t1 t2 : TE} (h1 : PE X e t1) (h2 : PE X e t2) : PE X e (fun σ H Q => t1 σ H Q ∨ t2 σ H Q) := ⟨fun pins s σ H Q I h => h.elim (h1.run pins s σ H Q I) (h2.run pins s σ H Q I)⟩
def iSeq (K : PySem.W.Frag) (tl : TE) : TI := fun σ H R => iList K tl σ H R ∨ iTup K tl σ H R
theorem pi_seq {X : Cx} {tg l : Expr} {tl : TE} (h : PE X l tl) : PI X tg l (iSeq X.K tl) := ⟨fun pins s σ H R I h' => h'.elim ((pi_list h).run pins s σ H R I) ((pi_tup h).run pins s σ H R I)⟩
theorem hu_of {A : Around} {k : Nat} (hr : Room k A) : A.units + 1 < cLine := by
  have := hr.un
  omega

/-- a text times a small number -/
def repS (z : Str) (n : Nat) : Str := ⟨List.foldl (fun x y => x ++ y) #[] (List.replicate n z.cps)⟩
theorem repS_one (z : Str) : repS z 1 = z := by
  show (⟨#[] ++ z.cps⟩ : Str) = z
  rw [Array.empty_append]
theorem foldl_empty : ∀ n : Nat, List.foldl (fun (x y : Array Nat) => x ++ y) #[] (List.replicate n #[]) = #[]
  | 0 => rfl
  | n + 1 => by
    rw [List.replicate_succ, List.foldl_cons]
    show List.foldl _ (#[] ++ #[]) _ = _
    rw [Array.empty_append]
    exact foldl_empty n
theorem repS_nil {z : Str} (h : z.length = 0) (n : Nat) : repS z n = z := by
  have e : z.cps = #[] := Array.eq_empty_of_size_eq_zero h
  obtain ⟨c⟩ := z
  have e : c = #[] := e
  subst e
  show (⟨List.foldl _ #[] (List.replicate n #[])⟩ : Str) = _
  rw [foldl_empty]
theorem foldl_size (c : Array Nat) : ∀ (n : Nat) (a : Array Nat), (List.foldl (fun (x y : Array Nat) => x ++ y) a (List.replicate n c)).size = a.size + n * c.size
  | 0, a => by
    rw [Nat.zero_mul]
    rfl
  | n + 1, a => by
    rw [List.replicate_succ, List.foldl_cons, foldl_size c n, Array.size_append, Nat.succ_mul]
    omega
theorem repS_len (z : Str) (n : Nat) : (repS z n).length = n * z.length := by
  show (List.foldl (fun (x y : Array Nat) => x ++ y) #[] (List.replicate n z.cps)).size = _
  rw [foldl_size]
  show 0 + n * z.cps.size = n * z.cps.size
  omega
theorem op_mul_str {X : Cx} : OpR X (binaryOp .Mult) (fun x y H Q => ∃ (z : Str) (k : Int), x = .str z ∧ y = .int k ∧ 0 ≤ k ∧ k ≤ 1000 ∧ z.length ≤ 1000 ∧ Q (.str (repS z k.toNat)) H) := by
  intro pins s σ H x y v u Q I rx ry h
  obtain ⟨z, k, rfl, rfl, h0, h1, hl, q⟩ := h
  obtain ⟨t, rfl⟩ : ∃ t, v = Value.str z t := rx
  obtain ⟨t2, rfl⟩ : ∃ t2, u = Value.int k t2 := ry
  have hzn : z.length * k.toNat ≤ 1000000 := by
    have := Nat.mul_le_mul hl (show k.toNat ≤ 1000 by omega)
    omega
  have hzk : (z.length : Int) * k ≤ 1000000 := by
    have e : ((k.toNat : Nat) : Int) = k := by omega
    rw [← e]
    have h := Int.ofNat_le.mpr hzn
    rw [Int.natCast_mul] at h
    exact h
  have hrl : (repS z k.toNat).length ≤ sizeLine := by
    rw [repS_len, Nat.mul_comm]
    exact Nat.le_of_lt (Nat.lt_of_le_of_lt hzn (by decide))
  refine PySem.P.mul_str (by rw [decide_eq_false (by omega), decide_eq_false (by omega)]; rfl) (fun c _ => ?_) (fun _ _ => ?_) ?_
  · have : (z.length : Int) ≤ (2 ^ 63 - 1) / k := Int.le_ediv_of_mul_le (by omega) (by omega)
    omega
  · exact decide_eq_false (Nat.not_lt.mpr (Nat.le_of_lt (Nat.lt_of_le_of_lt hzn (by decide))))
  · by_cases c : k < 1
    · rw [if_pos c]
      have e : k = 0 := by omega
      subst e
      exact ⟨by decide, V.str Str.empty, H, I.tok _, ⟨_, rfl⟩, q⟩
    · rw [if_neg c]
      by_cases c2 : (k == 1 || z.length == 0) = true
      · rw [if_pos c2]
        have e : repS z k.toNat = z := by
          rcases Bool.or_eq_true_iff.mp c2 with e | e
          · have : k = 1 := by simpa using e
            rw [this]
            exact repS_one z
          · exact repS_nil (by simpa using e) _
        rw [e] at q
        exact ⟨V.str z, H, I, ⟨_, rfl⟩, q⟩
      · rw [if_neg c2]
        exact ⟨hrl, V.str (repS z k.toNat), H, I.tok _, ⟨_, rfl⟩, q⟩

structure ExcT (K : PySem.W.Frag) (mg : Str → Option Value) (nm : Str) (C : Addr) : Prop where
  gC : mg nm = some (.ref C)
  xP : PySem.W.excIn K C [.type "ValueError", .type "Exception", .type "BaseException", .type "object"] "ValueError.__new__" = true
  kC : PySem.W.keepIn K (.ref C) = true
  bP : PySem.W.subIn K (.ref C) (.type "BaseException") = some true
  tP : PySem.W.typeIn K (.ref C) = some (.type "type")
  iP : PySem.W.isClsIn K C = true
  cP : ExcC K C
  vP : PySem.W.kitOne K (.ref C) (.type "ValueError") = some true
structure Env (K : PySem.W.Frag) (mg : Str → Option Value) where
  c_MeridianError : Addr
  c_BadArgument : Addr
  a_Reader : Addr
  a_Span : Addr
  a_group_of_key : Addr
  d_group_of_key : FuncData
  a_look_time : Addr
  d_look_time : FuncData
  a_Reader_init : Addr
  d_Reader_init : FuncData
  a_Reader_phase : Addr
  d_Reader_phase : FuncData
  a_Reader_time : Addr
  d_Reader_time : FuncData
  a_Reader_number : Addr
  d_Reader_number : FuncData
  a_Reader_got : Addr
  d_Reader_got : FuncData
  a_Reader_push : Addr
  d_Reader_push : FuncData
  a_Reader_receive : Addr
  d_Reader_receive : FuncData
  a_Reader__next_key : Addr
  d_Reader__next_key : FuncData
  a_Span_init : Addr
  d_Span_init : FuncData
  a_Span_contains : Addr
  d_Span_contains : FuncData
  a_Span_is_past : Addr
  d_Span_is_past : FuncData
  a__law_cell : Addr
  d__law_cell : FuncData
  a__law_draws : Addr
  d__law_draws : FuncData
  a__law_keys : Addr
  d__law_keys : FuncData
  a__law_push : Addr
  d__law_push : FuncData
  a__law_letter : Addr
  d__law_letter : FuncData
  a_law : Addr
  d_law : FuncData
  F_group_of_key : Fun K "group_of_key" "group_of_key" s_group_of_key a_group_of_key d_group_of_key
  b_group_of_key : Binds K d_group_of_key ["cuts", "key"] []
  g_group_of_key : mg "group_of_key" = some (.ref a_group_of_key)
  F_look_time : Fun K "look_time" "look_time" s_look_time a_look_time d_look_time
  b_look_time : Binds K d_look_time ["span"] []
  g_look_time : mg "look_time" = some (.ref a_look_time)
  F_Reader_init : Fun K "__init__" "Reader.__init__" s_Reader_init a_Reader_init d_Reader_init
  b_Reader_init : Binds K d_Reader_init ["self", "number", "keys", "cuts"] []
  F_Reader_phase : Fun K "phase" "Reader.phase" s_Reader_phase a_Reader_phase d_Reader_phase
  b_Reader_phase : Binds K d_Reader_phase ["self"] []
  F_Reader_time : Fun K "time" "Reader.time" s_Reader_time a_Reader_time d_Reader_time
  b_Reader_time : Binds K d_Reader_time ["self"] []
  F_Reader_number : Fun K "number" "Reader.number" s_Reader_number a_Reader_number d_Reader_number
  b_Reader_number : Binds K d_Reader_number ["self"] []
  F_Reader_got : Fun K "got" "Reader.got" s_Reader_got a_Reader_got d_Reader_got
  b_Reader_got : Binds K d_Reader_got ["self"] []
  F_Reader_push : Fun K "push" "Reader.push" s_Reader_push a_Reader_push d_Reader_push
  b_Reader_push : Binds K d_Reader_push ["self", "span"] []
  F_Reader_receive : Fun K "receive" "Reader.receive" s_Reader_receive a_Reader_receive d_Reader_receive
  b_Reader_receive : Binds K d_Reader_receive ["self", "letter"] []
  F_Reader__next_key : Fun K "_next_key" "Reader._next_key" s_Reader__next_key a_Reader__next_key d_Reader__next_key
  b_Reader__next_key : Binds K d_Reader__next_key ["self"] []
  F_Span_init : Fun K "__init__" "Span.__init__" s_Span_init a_Span_init d_Span_init
  b_Span_init : Binds K d_Span_init ["self", "low", "high"] []
  F_Span_contains : Fun K "__contains__" "Span.__contains__" s_Span_contains a_Span_contains d_Span_contains
  b_Span_contains : Binds K d_Span_contains ["self", "time"] []
  F_Span_is_past : Fun K "is_past" "Span.is_past" s_Span_is_past a_Span_is_past d_Span_is_past
  b_Span_is_past : Binds K d_Span_is_past ["self", "time"] []
  F__law_cell : Fun K "_law_cell" "_law_cell" s__law_cell a__law_cell d__law_cell
  b__law_cell : Binds K d__law_cell ["script", "k"] []
  g__law_cell : mg "_law_cell" = some (.ref a__law_cell)
  F__law_draws : Fun K "_law_draws" "_law_draws" s__law_draws a__law_draws d__law_draws
  b__law_draws : Binds K d__law_draws ["cell", "many", "limit"] []
  g__law_draws : mg "_law_draws" = some (.ref a__law_draws)
  F__law_keys : Fun K "_law_keys" "_law_keys" s__law_keys a__law_keys d__law_keys
  b__law_keys : Binds K d__law_keys ["cell"] []
  g__law_keys : mg "_law_keys" = some (.ref a__law_keys)
  F__law_push : Fun K "_law_push" "_law_push" s__law_push a__law_push d__law_push
  b__law_push : Binds K d__law_push ["m", "span"] []
  g__law_push : mg "_law_push" = some (.ref a__law_push)
  F__law_letter : Fun K "_law_letter" "_law_letter" s__law_letter a__law_letter d__law_letter
  b__law_letter : Binds K d__law_letter ["cell", "m", "keys"] []
  g__law_letter : mg "_law_letter" = some (.ref a__law_letter)
  F_law : Fun K "law" "law" s_law a_law d_law
  b_law : Binds K d_law ["script"] []
  e_MeridianError : ExcT K mg "MeridianError" c_MeridianError
  u_MeridianError_MeridianError : PySem.W.exmOne K (.ref c_MeridianError) (.ref c_MeridianError) = some true
  q_MeridianError_MeridianError : PySem.W.kitOne K (.ref c_MeridianError) (.ref c_MeridianError) = some true
  u_MeridianError_BadArgument : PySem.W.exmOne K (.ref c_MeridianError) (.ref c_BadArgument) = some false
  q_MeridianError_BadArgument : PySem.W.kitOne K (.ref c_MeridianError) (.ref c_BadArgument) = some false
  e_BadArgument : ExcT K mg "BadArgument" c_BadArgument
  u_BadArgument_MeridianError : PySem.W.exmOne K (.ref c_BadArgument) (.ref c_MeridianError) = some true
  q_BadArgument_MeridianError : PySem.W.kitOne K (.ref c_BadArgument) (.ref c_MeridianError) = some true
  u_BadArgument_BadArgument : PySem.W.exmOne K (.ref c_BadArgument) (.ref c_BadArgument) = some true
  q_BadArgument_BadArgument : PySem.W.kitOne K (.ref c_BadArgument) (.ref c_BadArgument) = some true
  k_Reader : ClsT K mg "Reader" a_Reader
  n_Reader__number : NoAttr K a_Reader "_number"
  n_Reader__wanted : NoAttr K a_Reader "_wanted"
  n_Reader__cuts : NoAttr K a_Reader "_cuts"
  n_Reader__phase : NoAttr K a_Reader "_phase"
  n_Reader__time : NoAttr K a_Reader "_time"
  n_Reader__got : NoAttr K a_Reader "_got"
  M_Reader : Mk K a_Reader a_Reader_init
  p_Reader_phase : Addr
  m_Reader_phase : PropOf K a_Reader "phase" p_Reader_phase a_Reader_phase
  p_Reader_time : Addr
  m_Reader_time : PropOf K a_Reader "time" p_Reader_time a_Reader_time
  p_Reader_number : Addr
  m_Reader_number : PropOf K a_Reader "number" p_Reader_number a_Reader_number
  m_Reader_got : Meth K a_Reader "got" a_Reader_got
  m_Reader_push : Meth K a_Reader "push" a_Reader_push
  m_Reader_receive : Meth K a_Reader "receive" a_Reader_receive
  m_Reader__next_key : Meth K a_Reader "_next_key" a_Reader__next_key
  k_Span : ClsT K mg "Span" a_Span
  n_Span_low : NoAttr K a_Span "low"
  n_Span_high : NoAttr K a_Span "high"
  M_Span : Mk K a_Span a_Span_init
  m_Span_contains : Meth K a_Span "__contains__" a_Span_contains
  m_Span_is_past : Meth K a_Span "is_past" a_Span_is_past
  o_NEW : Value
  k_NEW : mg "NEW" = some o_NEW
  r_NEW : RelV (.str "new") o_NEW
  o_READING : Value
  k_READING : mg "READING" = some o_READING
  r_READING : RelV (.str "reading") o_READING
  o_WAITING : Value
  k_WAITING : mg "WAITING" = some o_WAITING
  r_WAITING : RelV (.str "waiting") o_WAITING
  o_ENDED : Value
  k_ENDED : mg "ENDED" = some o_ENDED
  r_ENDED : RelV (.str "ended") o_ENDED
  z_len : mg "len" = none
  z_max : mg "max" = none
  z_tuple : mg "tuple" = none
  z_property : mg "property" = none
  z_list : mg "list" = none
  z_abs : mg "abs" = none
  z_int : mg "int" = none
  z_range : mg "range" = none
  z_sorted : mg "sorted" = none
  z_min : mg "min" = none
section
variable {P : Program} {w : World} {K : PySem.W.Frag} {mg : Str → Option Value} {base : Heap}
--PART /work/steering/wip/tools/pre.lean


--PART /work/steering/wip/tools/own.lean


--PART /work/steering/wip/parts/rets.lean

--PART /work/steering/wip/parts/num.lean
/-! ### base 128 -/
def vint (n : Int) : List Int := if n < 128 then [n] else (n % 128 + 128) :: vint (n / 128)
termination_by n.toNat
decreasing_by omega
theorem vint_lt {n : Int} (h : n < 128) : vint n = [n] := by rw [vint, if_pos h]
theorem vint_ge {n : Int} (h : ¬ n < 128) : vint n = (n % 128 + 128) :: vint (n / 128) := by rw [vint, if_neg h]
def NB : Int := 128 ^ 100
theorem vint_len : ∀ (k : Nat) (n : Int), n < 128 ^ (k + 1) → (vint n).length ≤ k + 1
  | 0, n, h => by
    have h' : n < 128 := by simpa using h
    rw [vint_lt h']
    exact Nat.le_refl _
  | k + 1, n, h => by
    by_cases c : n < 128
    · rw [vint_lt c]
      show 1 ≤ _
      omega
    · rw [vint_ge c, List.length_cons]
      have := vint_len k (n / 128) (by
        have e : (128 : Int) ^ (k + 1 + 1) = 128 ^ (k + 1) * 128 := Int.pow_succ ..
        rw [e] at h
        exact Int.ediv_lt_of_lt_mul (by decide) h)
      omega
theorem vint_len100 {n : Int} (h : n < NB) : (vint n).length ≤ 100 := vint_len 99 n h
theorem vint_ne (n : Int) : vint n ≠ [] := by
  by_cases c : n < 128
  · rw [vint_lt c]; simp
  · rw [vint_ge c]; simp
theorem vint_pos (n : Int) : 1 ≤ (vint n).length := by
  have := vint_ne n
  cases e : vint n with
  | nil => exact absurd e this
  | cons a r => simp
theorem vint_byte : ∀ (k : Nat) (n : Int), n < 128 ^ (k + 1) → 0 ≤ n → ∀ b ∈ vint n, 0 ≤ b ∧ b < 256
  | 0, n, h, h0, b, hb => by
    have h' : n < 128 := by simpa using h
    rw [vint_lt h'] at hb
    have : b = n := by simpa using hb
    omega
  | k + 1, n, h, h0, b, hb => by
    by_cases c : n < 128
    · rw [vint_lt c] at hb
      have : b = n := by simpa using hb
      omega
    · rw [vint_ge c] at hb
      rcases List.mem_cons.mp hb with e | e
      · omega
      · exact vint_byte k (n / 128) (by
          have e : (128 : Int) ^ (k + 1 + 1) = 128 ^ (k + 1) * 128 := Int.pow_succ ..
          rw [e] at h
          exact Int.ediv_lt_of_lt_mul (by decide) h) (by omega) b e
theorem vint_byte_NB {n : Int} (h : n < NB) (h0 : 0 ≤ n) : ∀ b ∈ vint n, 0 ≤ b ∧ b < 256 := vint_byte 99 n h h0
/-! ### numbers of the law -/
def lawNum (c : Int) : Int := if c < 10 ^ 18 then ([0, 1, 127, 128, 129, 16383, 16384, 16385, c] : List Int).getD (c % 9).toNat 0 else c % 10 ^ 60
theorem lawNum_lt {c : Int} (h : 0 ≤ c) : 0 ≤ lawNum c ∧ lawNum c < 10 ^ 60 := by
  unfold lawNum
  by_cases k : c < 10 ^ 18
  · rw [if_pos k]
    obtain ⟨j, hj, e⟩ : ∃ j : Nat, j < 9 ∧ (c % 9).toNat = j := ⟨_, by omega, rfl⟩
    rw [e]
    match j, hj with
    | 0, _ | 1, _ | 2, _ | 3, _ | 4, _ | 5, _ | 6, _ | 7, _ => exact ⟨by simp, by simp⟩
    | 8, _ => exact ⟨h, by show c < _; omega⟩
  · rw [if_neg k]
    exact ⟨Int.emod_nonneg _ (by decide), Int.emod_lt_of_pos _ (by decide)⟩
theorem num_NB {n : Int} (h : n < 10 ^ 60) : n < NB := Int.lt_of_lt_of_le h (by decide +kernel)
theorem canLay_dints : ∀ ns : List Int, PyData.canLayAll0 (ns.map PyData.int) = true
  | [] => rfl
  | n :: r => by
    show (PyData.canLay0 (.int n) && PyData.canLayAll0 (r.map PyData.int)) = true
    rw [canLay_dints r]
    rfl
theorem depth_dints : ∀ ns : List Int, PyData.depthAll (ns.map PyData.int) = 0
  | [] => by unfold PyData.depthAll; rfl
  | n :: r => by
    show PyData.depthAll (.int n :: r.map PyData.int) = 0
    unfold PyData.depthAll
    rw [depth_dints r]
    unfold PyData.depth
    rfl
theorem shaped_dInts (ns : List Int) : SeqAt.shaped (dInts ns) = true := by
  unfold SeqAt.shaped dInts
  rw [show PyData.canLay0 (.list (ns.map PyData.int)) = true from by unfold PyData.canLay0; exact canLay_dints ns]
  have : PyData.depth (.list (ns.map PyData.int)) = 1 := by
    unfold PyData.depth
    rw [depth_dints]
  rw [this]
  decide

--PART /work/steering/wip/parts/lawcell.lean
/-! ### the law's own helpers -/
def cell (ns : List Int) (k : Int) : Int := ((ns.getD k.toNat 0).natAbs : Int)
theorem cell_nn (ns : List Int) (k : Int) : 0 ≤ cell ns k := Int.natCast_nonneg _
def sp__law_cell (T : Env K mg) : Sp := fun vs H Q E => ∃ (a : Addr) (ns : List Int) (k : Int), vs = [.ref a, .int k] ∧ SqL K H a (ns.map V.int) ∧ 0 ≤ k ∧ Q (.int (cell ns k)) H
theorem ok__law_cell (T : Env K mg) : FnOk P w K mg base (L2.CX P w) 1 T.a__law_cell T.d__law_cell ["script", "k"] (sp__law_cell T) := by
  refine T.F__law_cell.okX sc__law_cell (fun vs H Q E h => by obtain ⟨_, _, _, rfl, _⟩ := h; rfl) (fun cdv A outer s H vs Q E hr h => ?_)
  obtain ⟨a, ns, k, rfl, hS, hk, h1⟩ := h
  refine ⟨_, (pss_cons (ps_if (pt_cmpR op_lt (pv 1) (pe_callB call_len (by rfl) T.z_len (by decide +kernel) (pa_cons (pv 0) pa_nil)) (nomark _)) (pss_one (ps_ret (pe_callB call_abs (by rfl) T.z_abs (by decide +kernel) (pa_cons (pe_callTy call_int1 (by rfl) T.z_int (by decide +kernel) (pa_cons (pe_ix ix_list (pv 0) (pv 1) (fun _ _ => rfl)) pa_nil)) pa_nil)))) pss_nil)
      (pss_one (ps_ret pe_int))), ?_⟩
  obtain ⟨j, rfl⟩ : ∃ j : Nat, k = (j : Int) := ⟨k.toNat, by omega⟩
  have hc : cell ns (j : Int) = ((ns.getD j 0).natAbs : Int) := rfl
  refine ⟨_, rfl, _, rfl, _, _, rfl, .inl ⟨_, hS, rfl⟩, _, _, rfl, rfl, _, rfl, iteD (fun c => ?_) (fun c => ?_)⟩
  · rw [List.length_map] at c
    have hj : j < ns.length := by omega
    refine ⟨_, rfl, _, rfl, a, _, _, _, rfl, rfl, hS, at_of (j := j) (v := V.int (ns.getD j 0)) rfl (by rw [List.getElem?_map, List.getD_eq_getElem?_getD, List.getElem?_eq_getElem hj]; rfl), .inl ⟨_, rfl, _, rfl, ?_⟩⟩
    have e : (if ns.getD j 0 < 0 then -ns.getD j 0 else ns.getD j 0) = cell ns (j : Int) := by
      rw [hc]
      split <;> omega
    show Q (V.int (if ns.getD j 0 < 0 then -ns.getD j 0 else ns.getD j 0)) H
    rw [e]
    exact h1
  · rw [List.length_map] at c
    show Q (.int 0) H
    have e : cell ns (j : Int) = 0 := by
      rw [hc, List.getD_eq_getElem?_getD, List.getElem?_eq_none (by omega)]
      rfl
    rw [e] at h1
    exact h1

--PART /work/steering/wip/parts/draws.lean
/-! ### drawn numbers -/
def bigGo (l : Int) : Nat → Int → List Int
  | 0, _ => []
  | m + 1, c => c % l :: bigGo l m (c / l)
def mixGo (l : Int) : Nat → Int → Int → List Int
  | 0, _, _ => []
  | m + 1, k, x => ((x * 16807 + 7919 * k) % 2147483647) / 64 % l :: mixGo l m (k + 1) ((x * 16807 + 7919 * k) % 2147483647)
def draws (c : Int) (m : Nat) (l : Int) : List Int := if 10 ^ 18 ≤ c then bigGo l m c else mixGo l m 0 ((c * 48271 + 12345) % 2147483647)
theorem bigGo_len (l : Int) : ∀ m c, (bigGo l m c).length = m
  | 0, _ => rfl
  | m + 1, c => by
    show (bigGo l m _).length + 1 = _
    rw [bigGo_len l m]
theorem mixGo_len (l : Int) : ∀ m k x, (mixGo l m k x).length = m
  | 0, _, _ => rfl
  | m + 1, k, x => by
    show (mixGo l m _ _).length + 1 = _
    rw [mixGo_len l m]
theorem bigGo_mem {l : Int} (hl : 0 < l) : ∀ m c, ∀ d ∈ bigGo l m c, 0 ≤ d ∧ d < l
  | 0, _, d, h => by cases h
  | m + 1, c, d, h => by
    rcases List.mem_cons.mp h with e | e
    · rw [e]
      exact ⟨Int.emod_nonneg _ (by omega), Int.emod_lt_of_pos _ hl⟩
    · exact bigGo_mem hl m _ d e
theorem mixGo_mem {l : Int} (hl : 0 < l) : ∀ m k x, ∀ d ∈ mixGo l m k x, 0 ≤ d ∧ d < l
  | 0, _, _, d, h => by cases h
  | m + 1, k, x, d, h => by
    rcases List.mem_cons.mp h with e | e
    · rw [e]
      exact ⟨Int.emod_nonneg _ (by omega), Int.emod_lt_of_pos _ hl⟩
    · exact mixGo_mem hl m _ _ d e
theorem draws_len (c : Int) (m : Nat) (l : Int) : (draws c m l).length = m := by
  unfold draws
  split
  · exact bigGo_len l m c
  · exact mixGo_len l m _ _
theorem draws_mem {c : Int} {m : Nat} {l : Int} (hl : 0 < l) : ∀ d ∈ draws c m l, 0 ≤ d ∧ d < l := by
  unfold draws
  split
  · exact bigGo_mem hl m c
  · exact mixGo_mem hl m _ _
def sp__law_draws (T : Env K mg) : Sp := fun vs H Q E => ∃ c m l : Int, vs = [.int c, .int m, .int l] ∧ 0 ≤ m ∧ m ≤ 100000 ∧ 0 < l ∧ l < 1000000 ∧ ∀ p H', Same H H' → H p = none → Li H' p (draws c m.toNat l) → Q (.ref p) H'
theorem ok__law_draws (T : Env K mg) : FnOk P w K mg base (L2.CX P w) 1 T.a__law_draws T.d__law_draws ["cell", "many", "limit"] (sp__law_draws T) := by
  refine T.F__law_draws.okX sc__law_draws (fun vs H Q E h => by obtain ⟨_, _, _, rfl, _⟩ := h; rfl) (fun cdv A outer s H vs Q E hr h => ?_)
  obtain ⟨c, m, l, rfl, hm, hm2, hl, hl2, h1⟩ := h
  refine ⟨_, (pss_cons (ps_set (i := 3) sc__law_draws.nd rfl (Or.inl rfl) (pe_lst pa_nil))
      (pss_cons (ps_if (pt_cmpR op_ge (pv 0) (pe_op op_pow pe_int pe_int) (nomark _)) (pss_cons (ps_for (passes_of rfl) rfl (pi_range1 rfl T.z_range (pa_cons (pv 1) pa_nil)) (pg_name (i := 4) sc__law_draws.nd rfl (Or.inl rfl)) (pss_cons (ps_expr (pe_bm PySem.F.plainAttrs_list PySem.F.slot_list_append PySem.F.type_list_append mt_append (pv 3) (pa_cons (pe_op op_mod (pe_callTy call_int1 (by rfl) T.z_int (by decide +kernel) (pa_cons (pv 0) pa_nil)) (pv 2)) pa_nil)))
      (pss_one (ps_set (i := 0) sc__law_draws.nd rfl (Or.inl rfl) (pe_op op_fdiv (pv 0) (pv 2))))))
      (pss_one (ps_ret (pv 3)))) pss_nil)
      (pss_cons (ps_set (i := 5) sc__law_draws.nd rfl (Or.inl rfl) (pe_op op_mod (pe_callTy call_int1 (by rfl) T.z_int (by decide +kernel) (pa_cons (pe_op op_add (pe_op op_mul (pv 0) pe_int) pe_int) pa_nil)) pe_int))
      (pss_cons (ps_for (passes_of rfl) rfl (pi_range1 rfl T.z_range (pa_cons (pv 1) pa_nil)) (pg_name (i := 4) sc__law_draws.nd rfl (Or.inl rfl)) (pss_cons (ps_set (i := 5) sc__law_draws.nd rfl (Or.inl rfl) (pe_op op_mod (pe_callTy call_int1 (by rfl) T.z_int (by decide +kernel) (pa_cons (pe_op op_add (pe_op op_mul (pv 5) pe_int) (pe_op op_mul pe_int (pv 4))) pa_nil)) pe_int))
      (pss_one (ps_expr (pe_bm PySem.F.plainAttrs_list PySem.F.slot_list_append PySem.F.type_list_append mt_append (pv 3) (pa_cons (pe_op op_mod (pe_op op_fdiv (pv 5) pe_int) (pv 2)) pa_nil))))))
      (pss_one (ps_ret (pv 3))))))), ?_⟩
  refine ⟨Nat.zero_le _, fun p np => ?_⟩
  refine ⟨_, rfl, _, _, rfl, rfl, ⟨by decide, by decide, by decide⟩, _, _, rfl, rfl, _, rfl, iteD (fun k => ?_) (fun k => ?_)⟩
  · have k : 10 ^ 18 ≤ c := k
    have ed : draws c m.toNat l = bigGo l m.toNat c := if_pos k
    rw [ed] at h1
    refine ⟨_, rfl, m, rfl, by omega, by omega, for_range (n := m.toNat) (fun i σ H' => ∃ c' v4 pre, σ = [some (.int c'), some (.int m), some (.int l), some (.ref p), v4, none] ∧ i ≤ m.toNat ∧ pre.length = i ∧ pre ++ bigGo l (m.toNat - i) c' = bigGo l m.toNat c ∧ Same H H' ∧ Li H' p pre) ⟨c, none, [], rfl, Nat.zero_le _, rfl, rfl, same_new np, upd_same⟩ ?_ ?_⟩
    · rintro i σ H1 hi ⟨c', v4, pre, rfl, _, hp, he, hs, hL⟩
      refine ⟨_, rfl, .inl ⟨rfl, _, SqL.of hL⟩, _, rfl, .inl ⟨_, rfl, _, rfl, _, _, rfl, rfl, hl, _, _, _, rfl, rfl, hL, szl (by rw [List.length_map]; omega), ?_⟩⟩
      refine ⟨_, rfl, _, rfl, _, _, rfl, rfl, ⟨hl, by omega⟩, ?_⟩
      refine ⟨c' / l, _, pre ++ [c' % l], rfl, by omega, by rw [List.length_append, hp]; rfl, ?_, same_mut hs np, li_push⟩
      rw [← he, List.append_assoc, show m.toNat - i = (m.toNat - (i + 1)) + 1 by omega]
      rfl
    · rintro σ H1 ⟨c', v4, pre, rfl, _, hp, he, hs, hL⟩
      refine ⟨_, rfl, h1 p _ hs np ?_⟩
      rw [← he, Nat.sub_self]
      show Li _ _ (pre ++ [])
      rw [List.append_nil]
      exact hL
  · have k : ¬ 10 ^ 18 ≤ c := k
    have ed : draws c m.toNat l = mixGo l m.toNat 0 ((c * 48271 + 12345) % 2147483647) := if_neg k
    rw [ed] at h1
    refine ⟨_, rfl, _, _, rfl, rfl, .inr ⟨by decide, by decide⟩, _, _, rfl, rfl, .inl ⟨_, rfl, _, _, rfl, rfl, by show (0 : Int) < _; decide, ?_⟩⟩
    refine ⟨_, rfl, m, rfl, by omega, by omega, for_range (n := m.toNat) (fun i σ H' => ∃ x v4 pre, σ = [some (.int c), some (.int m), some (.int l), some (.ref p), v4, some (.int x)] ∧ i ≤ m.toNat ∧ pre.length = i ∧ pre ++ mixGo l (m.toNat - i) (0 + (i : Int)) x = mixGo l m.toNat 0 ((c * 48271 + 12345) % 2147483647) ∧ Same H H' ∧ Li H' p pre) ⟨_, none, [], rfl, Nat.zero_le _, rfl, rfl, same_new np, upd_same⟩ ?_ ?_⟩
    · rintro i σ H1 hi ⟨x, v4, pre, rfl, _, hp, he, hs, hL⟩
      refine ⟨_, rfl, _, _, rfl, rfl, .inr ⟨by decide, by decide⟩, _, rfl, _, _, rfl, rfl, .inl ⟨by decide, by decide⟩, _, _, rfl, rfl, .inl ⟨_, rfl, _, _, rfl, rfl, by show (0 : Int) < _; decide, ?_⟩⟩
      refine ⟨_, rfl, .inl ⟨rfl, _, SqL.of hL⟩, _, rfl, _, _, rfl, rfl, ⟨by decide, by decide⟩, _, rfl, _, _, rfl, rfl, hl, _, _, _, rfl, rfl, hL, szl (by rw [List.length_map]; omega), ?_⟩
      refine ⟨_, _, pre ++ [((x * 16807 + 7919 * (0 + (i : Int))) % 2147483647) / 64 % l], rfl, by omega, by rw [List.length_append, hp]; rfl, ?_, same_mut hs np, li_push⟩
      rw [← he, List.append_assoc, show m.toNat - i = (m.toNat - (i + 1)) + 1 by omega, show (0 + ((i + 1 : Nat) : Int)) = 0 + (i : Int) + 1 by omega]
      rfl
    · rintro σ H1 ⟨x, v4, pre, rfl, _, hp, he, hs, hL⟩
      refine ⟨_, rfl, h1 p _ hs np ?_⟩
      rw [← he, Nat.sub_self]
      show Li _ _ (pre ++ [])
      rw [List.append_nil]
      exact hL
def blk (c : Int) (m : Nat) : List Int := (draws c m 997).map (· % 256)
theorem blk_len (c : Int) (m : Nat) : (blk c m).length = m := by
  unfold blk
  rw [List.length_map, draws_len]
theorem blk_mem (c : Int) (m : Nat) : ∀ d ∈ blk c m, 0 ≤ d ∧ d < 256 := by
  intro d h
  obtain ⟨e, _, rfl⟩ := List.mem_map.mp h
  exact ⟨Int.emod_nonneg _ (by decide), Int.emod_lt_of_pos _ (by decide)⟩
--PART /work/steering/wip/parts/strmul.lean


--PART /work/steering/wip/parts/encnum.lean
--PART /work/steering/wip/parts/texts.lean
/-! ### texts -/
abbrev AL : Str := "abcdefghijklmnopqrstuvwxyz0123456789./"
def codeI (c : Nat) : Int := Txt.find AL ⟨#[c]⟩
def okT (t : Str) : Prop := ∀ c ∈ t.cps.toList, 0 ≤ codeI c
instance (t : Str) : Decidable (okT t) := by unfold okT; infer_instance
def encT (t : Str) : List Int := vint t.length ++ t.cps.toList.map codeI
theorem str_len (t : Str) : t.length = t.cps.toList.length := rfl
theorem encT_len {t : Str} (h : t.length ≤ 100000) : (encT t).length ≤ 100100 := by
  unfold encT
  rw [List.length_append, List.length_map, ← str_len]
  have := vint_len100 (n := (t.length : Int)) (Int.lt_of_le_of_lt (b := 100000) (by omega) (by decide +kernel))
  omega
theorem encT_le {t : Str} (h : t.length ≤ 100000) : (encT t).length ≤ t.length + 100 := by
  unfold encT
  rw [List.length_append, List.length_map, ← str_len]
  have := vint_len100 (n := (t.length : Int)) (Int.lt_of_le_of_lt (b := 100000) (by omega) (by decide +kernel))
  omega
theorem small_NB {n : Nat} (h : n ≤ 100000) : ((n : Nat) : Int) < NB := Int.lt_of_le_of_lt (b := 100000) (by omega) (by decide +kernel)
theorem for_its {t : Str} {g : TG} {tb : TS} {D : Ends} {σ : L2.St} {H : Hp} (Pv : Nat → L2.St → Hp → Prop) (h0 : Pv 0 σ H)
    (hs : ∀ (i : Nat) (c : Nat) (σ : L2.St) (H : Hp), t.cps.toList[i]? = some c → Pv i σ H → g (.str ⟨#[c]⟩) σ H fun σ2 H2 => tb { nx := Pv (i + 1), rt := D.rt, bk := D.nx, ct := Pv (i + 1) } σ2 H2)
    (hd : ∀ (σ : L2.St) (H : Hp), Pv t.length σ H → D.nx σ H) :
    ∃ W : Nat → Nat → L2.St → Hp → Prop, (∃ m, W 0 m σ H) ∧ ∀ (i m : Nat) (σ : L2.St) (H : Hp), W i m σ H → ((Its t).stop i H ∧ D.nx σ H) ∨ ((Its t).go i H ∧ ∃ N : L2.St → Hp → Prop, (∀ (σ' : L2.St) (H' : Hp), N σ' H' → ∃ m', m' < m ∧ W (i + 1) m' σ' H') ∧
      ∀ (x : V) (H' : Hp), (Its t).yld i H x H' → g x σ H' fun σ2 H2 => tb { nx := N, rt := D.rt, bk := D.nx, ct := N } σ2 H2) := by
  refine ⟨fun i m σ H => m = t.length - i ∧ i ≤ t.length ∧ Pv i σ H, ⟨_, rfl, Nat.zero_le _, h0⟩, ?_⟩
  rintro i m σ H ⟨rfl, hi, hp⟩
  by_cases k : i < t.length
  · refine .inr ⟨k, Pv (i + 1), fun σ' H' hq => ⟨_, by omega, rfl, k, hq⟩, ?_⟩
    rintro x H' ⟨rfl, c, hc, rfl⟩
    exact hs i c σ H' (by rw [Array.getElem?_toList]; exact hc) hp
  · have e : i = t.length := by omega
    subst e
    exact .inl ⟨Nat.le_refl _, hd σ H hp⟩
theorem glue_sg (a : Array Nat) : ∀ L : List Nat, List.foldl (fun acc (p : Str) => acc ++ Str.empty.cps ++ p.cps) a (L.map fun c => (⟨#[c]⟩ : Str)) = a ++ L.toArray
  | [] => by simp
  | c :: r => by
    rw [List.map_cons, List.foldl_cons, glue_sg _ r]
    show (a ++ #[] ++ #[c]) ++ r.toArray = _
    simp
theorem join_sg (L : List Nat) : Txt.join Str.empty (L.map fun c => (⟨#[c]⟩ : Str)) = ⟨L.toArray⟩ := by
  cases L with
  | nil => rfl
  | cons c r =>
    show (⟨List.foldl (fun acc (p : Str) => acc ++ Str.empty.cps ++ p.cps) #[c] (r.map fun c => (⟨#[c]⟩ : Str))⟩ : Str) = _
    rw [glue_sg]
    simp
theorem sum_sg (L : List Nat) : ((L.map fun c => (⟨#[c]⟩ : Str)).map (·.length)).sum = L.length := by
  induction L with
  | nil => rfl
  | cons c r ih =>
    rw [List.map_cons, List.map_cons, List.sum_cons, ih, List.length_cons]
    show 1 + r.length = _
    omega
/-! list or tuple -/
def Sq (K : PySem.W.Frag) (H : Hp) (a : Addr) (xs : List V) : Prop := SqL K H a xs ∨ SqT K H a xs
theorem sqt_same {K : PySem.W.Frag} {H H' : Hp} {a : Addr} {xs : List V} (s : Same H H') (h : SqT K H a xs) : SqT K H' a xs := by
  rcases h with h1 | h1
  · rcases h1 with h1 | ⟨o, h1⟩
    · exact .inl (.inl (s _ _ h1))
    · exact .inl (.inr ⟨o, s _ _ h1⟩)
  · exact .inr h1
theorem Sq.same {K : PySem.W.Frag} {H H' : Hp} {a : Addr} {xs : List V} (h : Sq K H a xs) (s : Same H H') : Sq K H' a xs := h.elim (fun h => .inl (s.seq h)) fun h => .inr (sqt_same s h)
theorem Sq.len {K : PySem.W.Frag} {H : Hp} {a : Addr} {xs : List V} (h : Sq K H a xs) : LenV K (V.ref a) H xs.length := h.elim (fun h => .inl ⟨_, h, rfl⟩) fun h => .inr ⟨_, h, rfl⟩
/-- a for over a list or a tuple that stands in a slot -/
theorem for_seq {K : PySem.W.Frag} {a : Addr} {xs : List V} {j : Nat} {g : TG} {tb : TS} {D : Ends} {σ : L2.St} {H H0 : Hp} (Pv : Nat → L2.St → Hp → Prop) (hj : σ[j]? = some (some (V.ref a))) (hS : Sq K H0 a xs) (sH : Same H0 H)
    (h0 : Pv 0 σ H) (hs : ∀ (i : Nat) (σ' : L2.St) (H' : Hp), i ≤ xs.length → Pv i σ' H' → Same H0 H')
    (hb : ∀ (i : Nat) (x : V) (σ : L2.St) (H : Hp), xs[i]? = some x → Pv i σ H → g x σ H fun σ2 H2 => tb { nx := Pv (i + 1), rt := D.rt, bk := D.nx, ct := Pv (i + 1) } σ2 H2) (hd : ∀ (σ : L2.St) (H : Hp), Pv xs.length σ H → D.nx σ H) :
    iSeq K (tVar j) σ H fun J H1 => ∃ W : Nat → Nat → L2.St → Hp → Prop, (∃ m, W 0 m σ H1) ∧ ∀ (i m : Nat) (σ : L2.St) (H : Hp), W i m σ H → (J.stop i H ∧ D.nx σ H) ∨ (J.go i H ∧ ∃ N : L2.St → Hp → Prop, (∀ (σ' : L2.St) (H' : Hp), N σ' H' → ∃ m', m' < m ∧ W (i + 1) m' σ' H') ∧
      ∀ (x : V) (H' : Hp), J.yld i H x H' → g x σ H' fun σ2 H2 => tb { nx := N, rt := D.rt, bk := D.nx, ct := N } σ2 H2) := by
  rcases hS with hS | hS
  · exact .inl ⟨_, hj, a, rfl, ⟨_, sH.seq hS⟩, for_list Pv h0 (fun i σ' H' hi hp => (hs i σ' H' hi hp).seq hS) hb hd⟩
  · exact .inr ⟨_, hj, a, rfl, ⟨_, sqt_same sH hS⟩, for_tup Pv h0 (fun i σ' H' hi hp => sqt_same (hs i σ' H' hi hp) hS) hb hd⟩
def encTs (ts : List Str) : List Int := vint ts.length ++ ts.flatMap encT
theorem encTs_len : ∀ (ts : List Str), (∀ t ∈ ts, t.length ≤ 400) → (ts.flatMap encT).length ≤ 500 * ts.length
  | [], _ => by simp
  | t :: r, h => by
    have := encTs_len r fun t ht => h t (List.mem_cons_of_mem _ ht)
    have h1 := h t List.mem_cons_self
    have h2 : (encT t).length ≤ 500 := by
      unfold encT
      rw [List.length_append, List.length_map, ← str_len]
      have := vint_len100 (n := (t.length : Int)) (Int.lt_of_le_of_lt (b := 100000) (by omega) (by decide +kernel))
      omega
    rw [List.flatMap_cons, List.length_append, List.length_cons]
    omega
theorem mem_str {ts : List Str} {i : Nat} {x : V} (hx : (ts.map V.str)[i]? = some x) : ∃ t, ts[i]? = some t ∧ x = V.str t := by
  rw [List.getElem?_map] at hx
  cases e : ts[i]? with
  | none => rw [e] at hx; cases hx
  | some u => rw [e] at hx; exact ⟨u, rfl, (Option.some.inj hx).symm⟩
def chr (d : Int) : Nat := AL.cps.toList.getD d.toNat 0
theorem al_len : AL.cps.toList.length = 38 := by decide +kernel
theorem al_ok : ∀ c ∈ AL.cps.toList, 0 ≤ codeI c := by decide +kernel
theorem chr_mem {d : Int} (h0 : 0 ≤ d) (h : d < 38) : chr d ∈ AL.cps.toList := by
  unfold chr
  rw [List.getD_eq_getElem?_getD, List.getElem?_eq_getElem (by rw [al_len]; omega)]
  exact List.getElem_mem _
theorem at_chr {d : Int} (h0 : 0 ≤ d) (h : d < 38) : atI AL.cps.toList d = some (chr d) := by
  have e : d = ((d.toNat : Nat) : Int) := by omega
  have k : AL.cps.toList[d.toNat]? = some (chr d) := by
    unfold chr
    rw [List.getD_eq_getElem?_getD, List.getElem?_eq_getElem (by rw [al_len]; omega)]
    rfl
  have := atI_nat k
  rw [← e] at this
  exact this
def ltxt (c : Int) (m : Nat) : Str := ⟨((draws c m 38).map chr).toArray⟩
theorem ltxt_len (c : Int) (m : Nat) : (ltxt c m).length = m := by
  rw [str_len]
  show ((draws c m 38).map chr).length = m
  rw [List.length_map, draws_len]
theorem ltxt_ok (c : Int) (m : Nat) : okT (ltxt c m) := by
  intro x hx
  have hx : x ∈ (draws c m 38).map chr := hx
  obtain ⟨d, hd, rfl⟩ := List.mem_map.mp hx
  have := draws_mem (c := c) (m := m) (l := 38) (by decide) d hd
  exact al_ok _ (chr_mem this.1 this.2)
abbrev sg (c : Nat) : Str := ⟨#[c]⟩
/-! texts of the alphabet; lists of texts as data -/
def alT (t : Str) : Prop := ∀ c ∈ t.cps.toList, c ∈ AL.cps.toList
theorem alT.ok {t : Str} (h : alT t) : okT t := fun c hc => al_ok c (h c hc)
theorem al_small : ∀ c ∈ AL.cps.toList, c < 1114112 := by decide +kernel
theorem alT.strOk {t : Str} (h : alT t) : PyData.strOk t = true := by
  unfold PyData.strOk
  rw [Array.all_eq_true_iff_forall_mem]
  intro c hc
  exact decide_eq_true (al_small c (h c (Array.mem_toList_iff.mpr hc)))
theorem ltxt_al (c : Int) (m : Nat) : alT (ltxt c m) := by
  intro x hx
  have hx : x ∈ (draws c m 38).map chr := hx
  obtain ⟨d, hd, rfl⟩ := List.mem_map.mp hx
  have := draws_mem (c := c) (m := m) (l := 38) (by decide) d hd
  exact chr_mem this.1 this.2
def dStrs (ts : List Str) : PyData := .list (ts.map PyData.str)
theorem dp_all_strs {K : PySem.W.Frag} {H : Hp} : ∀ ts : List Str, DpAll K H (ts.map V.str) (ts.map PyData.str)
  | [] => .nil
  | n :: r => .cons (.str n) (dp_all_strs r)
theorem dp_strs {K : PySem.W.Frag} {H : Hp} {a : Addr} {ts : List Str} (h : SqL K H a (ts.map V.str)) : Dp K H (.ref a) (dStrs ts) := .lst h (dp_all_strs ts)
theorem good_strs : ∀ ts : List Str, (∀ t ∈ ts, alT t) → PyData.canLayAll0 (ts.map PyData.str) = true ∧ PyData.depthAll (ts.map PyData.str) = 0 ∧ PyData.eqvAll (ts.map PyData.str) (ts.map PyData.str) = true
  | [], _ => ⟨rfl, by rw [List.map_nil, PyData.depthAll], rfl⟩
  | t :: r, h => by
    obtain ⟨h1, h2, h3⟩ := good_strs r fun x hx => h x (List.mem_cons_of_mem _ hx)
    refine ⟨?_, ?_, ?_⟩
    · show (PyData.canLay0 (.str t) && PyData.canLayAll0 (r.map PyData.str)) = true
      rw [h1, show PyData.canLay0 (.str t) = true by unfold PyData.canLay0; exact (h t List.mem_cons_self).strOk]
      rfl
    · show PyData.depthAll (.str t :: r.map PyData.str) = 0
      rw [PyData.depthAll, h2, PyData.depth]
      rfl
    · show ((t == t) && PyData.eqvAll (r.map PyData.str) (r.map PyData.str)) = true
      rw [h3]
      simp
theorem shaped_strs {ts : List Str} (h : ∀ t ∈ ts, alT t) : SeqAt.shaped (dStrs ts) = true := by
  obtain ⟨h1, h2, _⟩ := good_strs ts h
  unfold SeqAt.shaped dStrs
  rw [show PyData.canLay0 (.list (ts.map PyData.str)) = true from by unfold PyData.canLay0; exact h1]
  have : PyData.depth (.list (ts.map PyData.str)) = 1 := by
    unfold PyData.depth
    rw [h2]
  rw [this]
  decide
theorem eqv_strs {ts : List Str} (h : ∀ t ∈ ts, alT t) : PyData.eqv (dStrs ts) (dStrs ts) = true := (good_strs ts h).2.2
theorem inV_str (k : Str) (ts : List Str) : inV (.str k) (ts.map V.str) = decide (k ∈ ts) := by
  unfold inV
  induction ts with
  | nil => simp
  | cons t r ih =>
    rw [List.map_cons, List.any_cons, ih]
    show ((t == k) || decide (k ∈ r)) = _
    by_cases e : t = k
    · subst e; simp
    · have e2 : ¬ k = t := fun q => e q.symm
      simp [e, e2]
theorem flat_strs (ts : List Str) : (ts.map V.str).all flatV = true := by
  induction ts with
  | nil => rfl
  | cons t r ih => rw [List.map_cons, List.all_cons, ih]; rfl
theorem cutS_len (z : Str) (lo hi : Option Int) : (cutS z lo hi).length ≤ z.length := by
  show (List.take _ (List.drop _ z.cps.toList)).length ≤ z.cps.toList.length
  rw [List.length_take, List.length_drop]
  omega
theorem app_len (a b : Str) : (a ++ b).length = a.length + b.length := by
  show (a.cps ++ b.cps).size = _
  rw [Array.size_append]
  rfl

--PART /work/steering/wip/parts/ascend.lean
/-! ### ascending texts -/
abbrev ltS (a b : Str) : Prop := a.cps.toList < b.cps.toList
theorem ltS_trans {a b c : Str} (h : ltS a b) (k : ltS b c) : ltS a c := List.lt_trans h k
theorem ltS_irrefl (a : Str) : ¬ ltS a a := List.lt_irrefl _
theorem str_ext {a b : Str} (h : a.cps.toList = b.cps.toList) : a = b := by
  obtain ⟨⟨x⟩⟩ := a
  obtain ⟨⟨y⟩⟩ := b
  have : x = y := h
  rw [this]
theorem ltS_of {a b : Str} (h : ¬ ltS b a) (n : a ≠ b) : ltS a b := Std.lt_of_le_of_ne h fun q => n (str_ext q)
theorem ltS_ne {b : Str} (h : ltS Str.empty b) : b ≠ Str.empty := fun q => ltS_irrefl _ (q ▸ h)
theorem ltS_empty {b : Str} (h : b ≠ Str.empty) : ltS Str.empty b := ltS_of (fun q => absurd q (List.not_lt_nil _)) (Ne.symm h)
def ascS : Str → List Str → Bool
  | _, [] => true
  | p, k :: r => decide (ltS p k) && ascS k r
theorem asc_pw : ∀ (p : Str) (ts : List Str), ascS p ts = true ↔ (p :: ts).Pairwise ltS
  | p, [] => by simp [ascS]
  | p, k :: r => by
    have ih := asc_pw k r
    show (decide (ltS p k) && ascS k r) = true ↔ _
    rw [Bool.and_eq_true, decide_eq_true_iff, ih]
    constructor
    · rintro ⟨h1, h2⟩
      exact List.pairwise_cons.mpr ⟨fun x hx => by
        rcases List.mem_cons.mp hx with e | e
        · rw [e]; exact h1
        · exact ltS_trans h1 ((List.pairwise_cons.mp h2).1 x e), h2⟩
    · intro h
      exact ⟨(List.pairwise_cons.mp h).1 k List.mem_cons_self, (List.pairwise_cons.mp h).2⟩
theorem rising_asc : ∀ (p : Str) (ys : List Str), risingS p ys = true → (p :: ys).Nodup → ascS p ys = true
  | _, [], _, _ => rfl
  | p, k :: r, h, hn => by
    have h : (!ltCps k.cps.toList p.cps.toList && risingS k r) = true := h
    rw [Bool.and_eq_true, ltCps_eq] at h
    have h1 : ¬ ltS k p := by simpa using h.1
    have hn2 := List.nodup_cons.mp hn
    show (decide (ltS p k) && ascS k r) = true
    rw [Bool.and_eq_true, decide_eq_true_iff]
    exact ⟨ltS_of h1 fun q => hn2.1 (q ▸ List.mem_cons_self), rising_asc k r h.2 hn2.2⟩
theorem sorted_asc {ys : List Str} (h : sortedS ys = true) (hn : ys.Nodup) (he : Str.empty ∉ ys) : ascS Str.empty ys = true := by
  cases ys with
  | nil => rfl
  | cons k r =>
    have h : risingS k r = true := h
    show (decide (ltS Str.empty k) && ascS k r) = true
    rw [Bool.and_eq_true, decide_eq_true_iff]
    exact ⟨ltS_empty fun q => he (q ▸ List.mem_cons_self), rising_asc k r h hn⟩
--PART /work/steering/wip/parts/lawkeys.lean
/-! ### the law's keys -/
instance (t : Str) : Decidable (alT t) := by unfold alT; infer_instance
theorem sg_len (c : Nat) : (sg c).length = 1 := rfl
theorem chr_at (d : Int) (h0 : 0 ≤ d) (h : d < 38) : atI AL.cps.toList d = some (chr d) := at_chr h0 h
theorem rep_al {z : Str} (h : alT z) (n : Nat) : alT (repS z n) := by
  have key : ∀ (n : Nat) (a : Array Nat), (∀ c ∈ a.toList, c ∈ AL.cps.toList) → ∀ c ∈ (List.foldl (fun (x y : Array Nat) => x ++ y) a (List.replicate n z.cps)).toList, c ∈ AL.cps.toList := by
    intro n
    induction n with
    | zero => intro a ha; exact ha
    | succ n ih =>
      intro a ha
      rw [List.replicate_succ, List.foldl_cons]
      refine ih _ fun c hc => ?_
      rw [Array.toList_append] at hc
      rcases List.mem_append.mp hc with q | q
      · exact ha c q
      · exact h c q
  exact key n #[] fun c hc => by simp at hc
theorem app_al {a b : Str} (ha : alT a) (hb : alT b) : alT (a ++ b) := by
  intro c hc
  have hc : c ∈ (a.cps ++ b.cps).toList := hc
  rw [Array.toList_append] at hc
  rcases List.mem_append.mp hc with q | q
  · exact ha c q
  · exact hb c q
theorem chr_al {d : Int} (h0 : 0 ≤ d) (h : d < 38) : alT (sg (chr d)) := by
  intro c hc
  have : c = chr d := by simpa using hc
  rw [this]
  exact chr_mem h0 h
theorem at_dd {D : List Int} {z : Int} (j : Nat) (e : z = (j : Int)) (h : j < D.length) : atI (D.map V.int) z = some (.int (D.getD j 0)) := at_of e (by rw [List.getElem?_map, List.getD_eq_getElem?_getD, List.getElem?_eq_getElem h]; rfl)
theorem draws_at {c : Int} {m : Nat} {l : Int} (hl : 0 < l) {j : Nat} (h : j < m) : 0 ≤ (draws c m l).getD j 0 ∧ (draws c m l).getD j 0 < l := draws_mem hl _ (by
  rw [List.getD_eq_getElem?_getD, List.getElem?_eq_getElem (by rw [draws_len]; exact h)]
  exact List.getElem_mem _)
def kOk (ks : List Str) (n : Nat) : Prop := ∀ k ∈ ks, alT k ∧ 1 ≤ k.length ∧ k.length ≤ n
def sp__law_keys (T : Env K mg) : Sp := fun vs H Q E => ∃ c : Int, vs = [.int c] ∧ 0 ≤ c ∧ ∀ (p : Addr) (ks : List Str) (H' : Hp), Same H H' → H p = none → ks.length = 4 → kOk ks 10 → H' p = some (.lst (ks.map V.str)) → Q (.ref p) H'
theorem ok__law_keys (T : Env K mg) : FnOk P w K mg base (L2.CX P w) 2 T.a__law_keys T.d__law_keys ["cell"] (sp__law_keys T) := by
  refine T.F__law_keys.okX sc__law_keys (fun vs H Q E h => by obtain ⟨_, rfl, _⟩ := h; rfl) (fun cdv A outer s H vs Q E hr h => ?_)
  obtain ⟨c, rfl, hc, h1⟩ := h
  have hu64 := hu64_of hr
  have G__law_draws := ok__law_draws (P := P) (w := w) (base := base) T
  refine ⟨_, (pss_cons (ps_set (i := 1) sc__law_keys.nd rfl (Or.inl rfl) pe_str)
      (pss_cons (ps_set (i := 2) sc__law_keys.nd rfl (Or.inl rfl) (pe_call G__law_draws (hr.mono (by decide)) rfl T.g__law_draws T.F__law_draws.kp T.b__law_draws .nil passL (pa_cons (pv 0) (pa_cons pe_int (pa_cons pe_int pa_nil)))))
      (pss_cons (ps_set (i := 3) sc__law_keys.nd rfl (Or.inl rfl) (pe_lst pa_nil))
      (pss_cons (ps_for (passes_of rfl) rfl (pi_range1 rfl T.z_range (pa_cons pe_int pa_nil)) (pg_name (i := 4) sc__law_keys.nd rfl (Or.inl rfl)) (pss_cons (ps_set (i := 5) sc__law_keys.nd rfl (Or.inl rfl) (pe_op op_mul_str (pe_ix ix_str (pv 1) (pe_ix ix_list (pv 2) (pv 4) (fun _ _ => rfl)) (fun _ _ => rfl)) (pe_op op_mod (pe_callTy call_int1 (by rfl) T.z_int (by decide +kernel) (pa_cons (pe_ix ix_list (pv 2) (pe_op op_add (pv 4) pe_int) (fun _ _ => rfl)) pa_nil)) pe_int)))
      (pss_one (ps_expr (pe_bm PySem.F.plainAttrs_list PySem.F.slot_list_append PySem.F.type_list_append mt_append (pv 3) (pa_cons (pe_op op_add_str (pv 5) (pe_ix ix_str (pv 1) (pe_op op_mod (pe_callTy call_int1 (by rfl) T.z_int (by decide +kernel) (pa_cons (pe_op op_add (pe_op op_add (pe_ix ix_list (pv 2) pe_int (fun _ _ => rfl)) (pe_op op_mul pe_int (pv 4))) (pe_op op_mod (pe_callTy call_int1 (by rfl) T.z_int (by decide +kernel) (pa_cons (pe_ix ix_list (pv 2) (pe_op op_add (pv 4) pe_int) (fun _ _ => rfl)) pa_nil)) pe_int)) pa_nil)) pe_int) (fun _ _ => rfl))) pa_nil))))))
      (pss_cons (ps_set (i := 6) sc__law_keys.nd rfl (Or.inl rfl) (pe_lst pa_nil))
      (pss_cons (ps_for (passes_of rfl) rfl (pi_list (pe_callB cr_sortedS (by rfl) T.z_sorted (by decide +kernel) (pa_cons (pv 3) pa_nil))) (pg_name (i := 7) sc__law_keys.nd rfl (Or.inl rfl)) (pss_one (ps_if (pt_cmpR op_notIn_seq (pv 7) (pv 6) rfl) (pss_one (ps_expr (pe_bm PySem.F.plainAttrs_list PySem.F.slot_list_append PySem.F.type_list_append mt_append (pv 6) (pa_cons (pv 7) pa_nil)))) pss_nil)))
      (pss_cons (ps_while (passes_of rfl) (pt_cmpR op_lt (pe_callB call_len (by rfl) T.z_len (by decide +kernel) (pa_cons (pv 6) pa_nil)) pe_int (nomark _)) (pss_one (ps_expr (pe_bm PySem.F.plainAttrs_list PySem.F.slot_list_append PySem.F.type_list_append mt_append (pv 6) (pa_cons (pe_op op_add_str (pe_ix ix_list (pv 6) (pe_un un_neg pe_int) (fun _ _ => rfl)) pe_str) pa_nil)))))
      (pss_one (ps_ret (pv 6)))))))))), ?_⟩
  refine ⟨_, rfl, c, 8, 38, rfl, by decide, by decide, by decide, by decide, fun pN H1 s1 npN hN => ?_⟩
  have hDl : (draws c (8 : Int).toNat 38).length = 8 := draws_len _ _ _
  have hg : ∀ j, j < 8 → 0 ≤ (draws c (8 : Int).toNat 38).getD j 0 ∧ (draws c (8 : Int).toNat 38).getD j 0 < 38 := fun j hj => draws_at (by decide) hj
  generalize draws c (8 : Int).toNat 38 = D at hN hDl hg
  refine ⟨Nat.zero_le _, fun pk npk => ?_⟩
  have npk0 : H pk = none := s1.free npk
  have s2 := s1.trans (same_new (o := .lst []) npk)
  have hN2 := same_new (o := .lst []) npk _ _ hN
  refine ⟨4, rfl, by decide, by decide, for_range (n := 4) (fun i σ H' => ∃ v4 v5, ∃ ks : List Str, σ = [some (.int c), some (.str AL), some (.ref pN), some (.ref pk), v4, v5, none, none] ∧ Same H H' ∧ Li H' pN D ∧ H' pk = some (.lst (ks.map V.str)) ∧ ks.length = i ∧ kOk ks 3) ⟨none, none, [], rfl, s2, hN2, upd_same, rfl, fun k h => by simp at h⟩ ?_ ?_⟩
  · rintro i σ H' hi ⟨v4, v5, ks, rfl, sA, hN', hK, hl, hk⟩
    have g0 := hg 0 (by omega)
    have gi := hg i (by omega)
    have gi4 := hg (i + 4) (by omega)
    have hAl : AL.length ≤ sizeLine := by rw [str_len, al_len]; exact szle (by decide)
    refine ⟨_, rfl, _, rfl, _, rfl, pN, _, _, _, rfl, rfl, SqL.of hN', at_dd (D := D) i (by omega) (by omega), _, _, _, rfl, rfl, hAl, chr_at _ gi.1 gi.2, ?_⟩
    refine ⟨_, rfl, _, rfl, _, _, rfl, rfl, pN, _, _, _, rfl, rfl, SqL.of hN', at_dd (D := D) (i + 4) (by omega) (by omega), .inl ⟨_, rfl, _, _, rfl, rfl, by show (0 : Int) < _; decide, _, _, rfl, rfl, by omega, by omega, (by show 1 ≤ 1000; decide), ?_⟩⟩
    have hH : alT (repS (sg (chr (D.getD i 0))) (D.getD (i + 4) 0 % 3).toNat) := rep_al (chr_al gi.1 gi.2) _
    have hHl : (repS (sg (chr (D.getD i 0))) (D.getD (i + 4) 0 % 3).toNat).length ≤ 2 := by rw [repS_len, sg_len]; omega
    show tSeq _ _ _ [some (.int c), some (.str AL), some (.ref pN), some (.ref pk), some (.int (0 + (i : Int))), some (.str (repS (sg (chr (D.getD i 0))) (D.getD (i + 4) 0 % 3).toNat)), none, none] H'
    generalize repS (sg (chr (D.getD i 0))) (D.getD (i + 4) 0 % 3).toNat = hd at hH hHl
    obtain ⟨z, hz, hz0, hz38⟩ : ∃ z, (D.getD 0 0 + 9 * (0 + (i : Int)) + D.getD (i + 4) 0 % 5) % 38 = z ∧ 0 ≤ z ∧ z < 38 := ⟨_, rfl, by omega, by omega⟩
    refine ⟨_, rfl, .inl ⟨rfl, _, SqL.of hK⟩, _, rfl, _, rfl, _, rfl, pN, _, _, _, rfl, rfl, SqL.of hN', at_dd (D := D) 0 rfl (by omega), ?_⟩
    refine ⟨_, rfl, _, _, rfl, rfl, .inl ⟨by decide, by decide⟩, _, _, rfl, rfl, ?_⟩
    refine ⟨_, rfl, _, rfl, _, _, rfl, rfl, pN, _, _, _, rfl, rfl, SqL.of hN', at_dd (D := D) (i + 4) (by omega) (by omega), .inl ⟨_, rfl, _, _, rfl, rfl, by show (0 : Int) < _; decide, _, _, rfl, rfl, .inl ⟨_, rfl, _, _, rfl, rfl, by show (0 : Int) < _; decide, ?_⟩⟩⟩
    refine ⟨_, _, chr z, rfl, rfl, hAl, (by show atI AL.cps.toList ((D.getD 0 0 + 9 * (0 + (i : Int)) + D.getD (i + 4) 0 % 5) % 38) = _; rw [hz]; exact chr_at z hz0 hz38), _, _, rfl, rfl, (by exact szle (by show hd.length + 1 ≤ _; omega)), _, _, _, rfl, rfl, hK, szl (by rw [List.length_map]; omega), ?_⟩
    have hpn : pN ≠ pk := ne_of_none hN npk
    refine ⟨_, _, ks ++ [hd ++ sg (chr z)], rfl, same_mut sA npk0, ?_, by rw [upd_same, List.map_append]; rfl, by rw [List.length_append, hl]; rfl, ?_⟩
    · show upd _ _ _ _ = _
      rw [upd_ne hpn]
      exact hN'
    · intro k h
      rcases List.mem_append.mp h with q | q
      · exact hk k q
      · have : k = hd ++ sg (chr z) := by simpa using q
        rw [this]
        refine ⟨app_al hH (chr_al hz0 hz38), ?_, ?_⟩ <;> rw [app_len, sg_len] <;> omega
  rintro σ H2 ⟨v4, v5, ks, rfl, sA, hN', hK, hl, hk⟩
  clear hg hN' hN2 s2
  refine ⟨Nat.zero_le _, fun po npo => ?_⟩
  have npo0 : H po = none := sA.free npo
  have s3 := sA.trans (same_new (o := .lst []) npo)
  have hK3 := same_new (o := .lst []) npo _ _ hK
  have hO3 : upd H2 po (.lst []) po = some (.lst (([] : List Str).map V.str)) := upd_same
  show tSeq _ _ _ _ (upd H2 po (.lst []))
  generalize upd H2 po (.lst []) = H3 at s3 hK3 hO3
  refine ⟨_, rfl, pk, ks, rfl, SqL.of hK3, by omega, fun ys p hperm hsort np => ?_⟩
  have hyl : ys.length = 4 := by rw [hperm.length_eq, hl]
  have hyk : kOk ys 3 := fun k h => hk k (hperm.mem_iff.mp h)
  have hpo : po ≠ p := ne_of_none hO3 np
  have s4 := s3.trans (same_new (o := .lst (ys.map V.str)) np)
  have hO4 := same_new (o := .lst (ys.map V.str)) np _ _ hO3
  have hP : upd H3 p (.lst (ys.map V.str)) p = some (.lst (ys.map V.str)) := upd_same
  refine ⟨p, rfl, ⟨_, SqL.of hP⟩, ?_⟩
  generalize upd H3 p (.lst (ys.map V.str)) = H4 at s4 hO4 hP
  refine for_list (K := K) (a := p) (xs := ys.map V.str) (fun i σ H' => ∃ v7, ∃ os : List Str, σ = [some (.int c), some (.str AL), some (.ref pN), some (.ref pk), v4, v5, some (.ref po), v7] ∧ Same H H' ∧ H' p = some (.lst (ys.map V.str)) ∧ H' po = some (.lst (os.map V.str)) ∧ os.length ≤ i ∧ (0 < i → 0 < os.length) ∧ kOk os 3) ⟨none, [], rfl, s4, hP, hO4, Nat.le_refl _, fun h => absurd h (by decide), fun k h => by simp at h⟩ (fun i σ H' _ ⟨_, _, _, _, h, _⟩ => SqL.of h) ?_ ?_
  · rintro i x σ H' hx ⟨v7, os, rfl, sB, hp, hO, hl1, hl2, hko⟩
    obtain ⟨t, ht, rfl⟩ := mem_str hx
    refine ⟨_, rfl, _, rfl, po, os.map V.str, rfl, .inl (SqL.of hO), rfl, flat_strs os, _, rfl, ?_⟩
    rw [inV_str]
    by_cases cc : t ∈ os
    · exact ifF (by rw [decide_eq_true cc]; rfl) ⟨_, os, rfl, sB, hp, hO, by omega, fun _ => List.length_pos_of_mem cc, hko⟩
    · refine ifT (by rw [decide_eq_false cc]; rfl) ⟨_, rfl, .inl ⟨rfl, _, SqL.of hO⟩, _, rfl, _, _, _, rfl, rfl, hO, szl (by rw [List.length_map]; have := (List.getElem?_eq_some_iff.mp ht).1; omega), ?_⟩
      refine ⟨_, os ++ [t], rfl, same_mut sB npo0, by rw [upd_ne (Ne.symm hpo)]; exact hp, by rw [upd_same, List.map_append]; rfl, by rw [List.length_append]; show os.length + 1 ≤ _; omega, fun _ => by rw [List.length_append]; show 0 < os.length + 1; omega, ?_⟩
      intro k h
      rcases List.mem_append.mp h with q | q
      · exact hko k q
      · have : k = t := by simpa using q
        rw [this]
        exact hyk t (List.mem_of_getElem? ht)
  rintro σ H5 ⟨v7, os, rfl, sB, hp, hO, hl1, hl2, hko⟩
  rw [List.length_map, hyl] at hl1 hl2
  have hl2 := hl2 (by decide)
  refine ⟨fun m σ H' => ∃ os : List Str, m = 4 - os.length ∧ σ = [some (.int c), some (.str AL), some (.ref pN), some (.ref pk), v4, v5, some (.ref po), v7] ∧ Same H H' ∧ H' po = some (.lst (os.map V.str)) ∧ 1 ≤ os.length ∧ os.length ≤ 4 ∧ kOk os (2 + os.length), ⟨_, os, rfl, rfl, sB, hO, hl2, hl1, fun k h => by have := hko k h; exact ⟨this.1, this.2.1, by omega⟩⟩, ?_⟩
  rintro m σ H' ⟨os, rfl, rfl, sC, hO, ho1, ho4, hko⟩
  refine ⟨_, rfl, _, _, rfl, .inl ⟨_, SqL.of hO, rfl⟩, _, _, rfl, rfl, _, rfl, iteD (fun cc => ?_) (fun cc => ?_)⟩
  · rw [List.length_map] at cc
    refine ⟨fun σ' H' => _, fun _ _ h => h, ?_⟩
    obtain ⟨t, htl⟩ : ∃ t, os[os.length - 1]? = some t := ⟨_, List.getElem?_eq_getElem (by omega)⟩
    have htm := List.mem_of_getElem? htl
    obtain ⟨hta, ht1, ht2⟩ := hko t htm
    refine ⟨_, rfl, .inl ⟨rfl, _, SqL.of hO⟩, _, rfl, _, rfl, po, _, _, .str t, rfl, rfl, SqL.of hO, ?_, _, _, rfl, rfl, (by exact szle (by show t.length + 1 ≤ _; omega)), _, _, _, rfl, rfl, hO, szl (by rw [List.length_map]; omega), ?_⟩
    · unfold atI ixN
      rw [if_neg (by decide), if_pos (by rw [List.length_map]; omega), List.length_map]
      show (os.map V.str)[((-1 : Int) + (os.length : Nat)).toNat]? = _
      rw [show ((-1 : Int) + (os.length : Nat)).toNat = os.length - 1 by omega, List.getElem?_map, htl]
      rfl
    · refine ⟨4 - (os ++ [t ++ ("a" : Str)]).length, by rw [List.length_append]; show 4 - (os.length + 1) < _; omega, os ++ [t ++ ("a" : Str)], rfl, rfl, same_mut sC npo0, by rw [upd_same, List.map_append]; rfl, by rw [List.length_append]; omega, by rw [List.length_append]; show os.length + 1 ≤ _; omega, ?_⟩
      intro k h
      rw [List.length_append]
      show alT k ∧ 1 ≤ k.length ∧ k.length ≤ 2 + (os.length + 1)
      rcases List.mem_append.mp h with q | q
      · have := hko k q
        exact ⟨this.1, this.2.1, by omega⟩
      · have : k = t ++ ("a" : Str) := by simpa using q
        rw [this]
        refine ⟨app_al hta (by decide +kernel), ?_, ?_⟩ <;> rw [app_len] <;> show _ + 1 ≤ _ <;> omega
  · rw [List.length_map] at cc
    exact ⟨_, rfl, h1 po os _ sC npo0 (by omega) (fun k h => by have := hko k h; exact ⟨this.1, this.2.1, by omega⟩) hO⟩

--PART /work/steering/wip/parts/fields.lean
/-! ### fields and dicts by lists of names and of values -/
theorem zlook : ∀ {names : List Str} {vals : List V} {k : Str} (i : Nat), names.idxOf k = i → i < names.length → names.length = vals.length → (names.zip vals).lookup k = vals[i]?
  | [], _, _, _, _, h, _ => absurd h (Nat.not_lt_zero _)
  | a :: r, [], _, _, _, _, h => by cases h
  | a :: r, v :: vs, k, i, h1, h2, h3 => by
    rw [List.zip_cons_cons, List.lookup_cons]
    rw [List.idxOf_cons] at h1
    by_cases c : a = k
    · have e1 : (a == k) = true := by simpa using c
      have e2 : (k == a) = true := by simpa using c.symm
      rw [e1] at h1
      have h1 : 0 = i := h1
      rw [e2, ← h1]
      rfl
    · have e1 : (a == k) = false := by simpa using c
      have e2 : (k == a) = false := by simpa using Ne.symm c
      rw [e1] at h1
      have h1 : r.idxOf k + 1 = i := h1
      rw [e2, ← h1]
      show (r.zip vs).lookup k = vs[r.idxOf k]?
      exact zlook _ rfl (by rw [← h1] at h2; exact Nat.lt_of_succ_lt_succ h2) (Nat.succ.inj h3)
theorem zno : ∀ {names : List Str} {vals : List V} {k : Str}, k ∉ names → (names.zip vals).lookup k = none
  | [], _, _, _ => rfl
  | a :: r, [], _, _ => rfl
  | a :: r, v :: vs, k, h => by
    rw [List.zip_cons_cons, List.lookup_cons]
    have e2 : (k == a) = false := by simpa using fun q => h (by rw [q]; exact List.mem_cons_self)
    rw [e2]
    exact zno fun q => h (List.mem_cons_of_mem _ q)
theorem zput : ∀ {names : List Str} {vals : List V} {k : Str} {v : V} (i : Nat), names.idxOf k = i → i < names.length → names.length = vals.length → putF k v (names.zip vals) = names.zip (vals.set i v)
  | [], _, _, _, _, _, h, _ => absurd h (Nat.not_lt_zero _)
  | a :: r, [], _, _, _, _, _, h => by cases h
  | a :: r, w :: vs, k, v, i, h1, h2, h3 => by
    rw [List.zip_cons_cons]
    rw [List.idxOf_cons] at h1
    show (if a = k then (a, v) :: r.zip vs else (a, w) :: putF k v (r.zip vs)) = _
    by_cases c : a = k
    · have e1 : (a == k) = true := by simpa using c
      rw [e1] at h1
      have h1 : 0 = i := h1
      rw [if_pos c, ← h1]
      rfl
    · have e1 : (a == k) = false := by simpa using c
      rw [e1] at h1
      have h1 : r.idxOf k + 1 = i := h1
      rw [if_neg c, ← h1]
      show (a, w) :: putF k v (r.zip vs) = (a, w) :: r.zip (vs.set (r.idxOf k) v)
      rw [zput _ rfl (by rw [← h1] at h2; exact Nat.lt_of_succ_lt_succ h2) (Nat.succ.inj h3)]
theorem znew : ∀ {names : List Str} {vals : List V} {k : Str} {v : V}, k ∉ names → names.length = vals.length → putF k v (names.zip vals) = (names ++ [k]).zip (vals ++ [v])
  | [], [], _, _, _, _ => rfl
  | [], _ :: _, _, _, _, h => by cases h
  | _ :: _, [], _, _, _, h => by cases h
  | a :: r, w :: vs, k, v, h, h3 => by
    rw [List.zip_cons_cons]
    show (if a = k then (a, v) :: r.zip vs else (a, w) :: putF k v (r.zip vs)) = (a, w) :: (r ++ [k]).zip (vs ++ [v])
    rw [if_neg (fun q => h (by rw [q]; exact List.mem_cons_self)), znew (fun q => h (List.mem_cons_of_mem _ q)) (Nat.succ.inj h3)]
abbrev zD (names : List Str) (vals : List V) : List (Key × V) := (names.zip vals).map fun kv => ((Sum.inr kv.1 : Key), kv.2)
theorem zD_cons (a : Str) (r : List Str) (v : V) (vs : List V) : zD (a :: r) (v :: vs) = ((Sum.inr a : Key), v) :: zD r vs := rfl
theorem zget : ∀ {names : List Str} {vals : List V} {k : Str} (i : Nat), names.idxOf k = i → i < names.length → names.length = vals.length → valV (zD names vals) (Sum.inr k) = vals[i]?
  | [], _, _, _, _, h, _ => absurd h (Nat.not_lt_zero _)
  | a :: r, [], _, _, _, _, h => by cases h
  | a :: r, v :: vs, k, i, h1, h2, h3 => by
    rw [zD_cons]
    unfold valV
    rw [List.find?_cons]
    rw [List.idxOf_cons] at h1
    by_cases c : a = k
    · have e1 : (a == k) = true := by simpa using c
      rw [e1] at h1
      have h1 : 0 = i := h1
      rw [show decide ((Sum.inr a : Key) = Sum.inr k) = true from decide_eq_true (by rw [c]), ← h1]
      rfl
    · have e1 : (a == k) = false := by simpa using c
      rw [e1] at h1
      have h1 : r.idxOf k + 1 = i := h1
      rw [show decide ((Sum.inr a : Key) = Sum.inr k) = false from decide_eq_false fun q => c (Sum.inr.inj q), ← h1]
      exact zget _ rfl (by rw [← h1] at h2; exact Nat.lt_of_succ_lt_succ h2) (Nat.succ.inj h3)
theorem zany : ∀ {names : List Str} {vals : List V} {k : Str}, names.length = vals.length → ((zD names vals).any fun kv => decide (kv.1 = Sum.inr k)) = decide (k ∈ names)
  | [], [], _, _ => by simp [zD]
  | [], _ :: _, _, h => by cases h
  | _ :: _, [], _, h => by cases h
  | a :: r, v :: vs, k, h => by
    rw [zD_cons, List.any_cons, zany (Nat.succ.inj h)]
    by_cases c : a = k
    · rw [show decide ((Sum.inr a : Key) = Sum.inr k) = true from decide_eq_true (by rw [c])]
      simp [c]
    · rw [show decide ((Sum.inr a : Key) = Sum.inr k) = false from decide_eq_false fun q => c (Sum.inr.inj q)]
      simp [Ne.symm c]
theorem zDset : ∀ {names : List Str} {vals : List V} {k : Str} {v : V} (i : Nat), names.Nodup → names.idxOf k = i → i < names.length → names.length = vals.length → ((zD names vals).map fun kv => if kv.1 = Sum.inr k then (kv.1, v) else kv) = zD names (vals.set i v)
  | [], _, _, _, _, _, _, h, _ => absurd h (Nat.not_lt_zero _)
  | a :: r, [], _, _, _, _, _, _, h => by cases h
  | a :: r, w :: vs, k, v, i, hn, h1, h2, h3 => by
    have hn2 := List.nodup_cons.mp hn
    rw [zD_cons, List.map_cons]
    rw [List.idxOf_cons] at h1
    by_cases c : a = k
    · have e1 : (a == k) = true := by simpa using c
      rw [e1] at h1
      have h1 : 0 = i := h1
      rw [if_pos (show ((Sum.inr a : Key), w).1 = Sum.inr k from by rw [c]), ← h1]
      show _ :: _ = ((Sum.inr a : Key), v) :: zD r vs
      congr 1
      refine (List.map_congr_left fun p hp => ?_).trans (List.map_id _)
      refine if_neg fun q => ?_
      obtain ⟨⟨x, y⟩, hx, rfl⟩ := List.mem_map.mp hp
      have q : x = k := Sum.inr.inj q
      exact hn2.1 (by rw [c, ← q]; exact (List.of_mem_zip hx).1)
    · have e1 : (a == k) = false := by simpa using c
      rw [e1] at h1
      have h1 : r.idxOf k + 1 = i := h1
      rw [if_neg (show ¬ ((Sum.inr a : Key) = Sum.inr k) from fun q => c (Sum.inr.inj q)), ← h1]
      show _ :: _ = ((Sum.inr a : Key), w) :: zD r (vs.set (r.idxOf k) v)
      rw [zDset _ hn2.2 rfl (by rw [← h1] at h2; exact Nat.lt_of_succ_lt_succ h2) (Nat.succ.inj h3)]
theorem zDput {names : List Str} {vals : List V} {k : Str} {v : V} (i : Nat) (hn : names.Nodup) (h1 : names.idxOf k = i) (h2 : i < names.length) (h3 : names.length = vals.length) : putK (zD names vals) (Sum.inr k) v = zD names (vals.set i v) := by
  unfold putK
  have hk : k ∈ names := List.idxOf_lt_length_iff.mp (by rw [h1]; exact h2)
  rw [zany h3, if_pos (decide_eq_true hk), zDset i hn h1 h2 h3]
theorem zmerge : ∀ {n2 : List Str} {v2 : List V} {n1 : List Str} {v1 : List V}, (n1 ++ n2).Nodup → n1.length = v1.length → n2.length = v2.length → mergeK (zD n1 v1) (zD n2 v2) = zD (n1 ++ n2) (v1 ++ v2)
  | [], [], n1, v1, _, _, _ => by
    rw [List.append_nil, List.append_nil]
    rfl
  | [], _ :: _, _, _, _, _, h => by cases h
  | _ :: _, [], _, _, _, _, h => by cases h
  | a :: r, v :: vs, n1, v1, hn, h1, h2 => by
    have ha : a ∉ n1 := fun q => (List.nodup_append.mp hn).2.2 a q a List.mem_cons_self rfl
    have e : putK (zD n1 v1) (Sum.inr a) v = zD (n1 ++ [a]) (v1 ++ [v]) := by
      unfold putK
      rw [zany h1, if_neg (by simpa using ha)]
      show _ = ((n1 ++ [a]).zip (v1 ++ [v])).map _
      rw [List.zip_append h1, List.map_append]
      rfl
    show mergeK (putK (zD n1 v1) (Sum.inr a) v) (zD r vs) = _
    rw [e, zmerge (by rw [List.append_assoc]; exact hn) (by rw [List.length_append, List.length_append, h1]; rfl) (Nat.succ.inj h2), List.append_assoc, List.append_assoc]
    rfl
theorem zdget {names : List Str} {vals : List V} {H : Hp} {p : Addr} (h : H p = some (.dK (zD names vals))) {k : Str} {v : V} (i : Nat) (h1 : names.idxOf k = i) (h2 : i < names.length) (h3 : names.length = vals.length) (hv : vals[i]? = some v) : DGet H p (.str k) (some v) := .inl ⟨_, Sum.inr k, .inl h, rfl, by rw [zget i h1 h2 h3, hv]⟩
theorem zdput {names : List Str} {vals : List V} {H : Hp} {p : Addr} (h : H p = some (.dK (zD names vals))) {k : Str} {v : V} (i : Nat) (hn : names.Nodup) (h1 : names.idxOf k = i) (h2 : i < names.length) (h3 : names.length = vals.length) (hl : names.length ≤ 1000) : DPut H p (.str k) v (upd H p (.dK (zD names (vals.set i v)))) := .inl ⟨_, Sum.inr k, h, rfl, szl (by rw [List.length_map, List.length_zip]; omega), by rw [zDput i hn h1 h2 h3]⟩
theorem at_strs {ks : List Str} {z : Int} (h0 : 0 ≤ z) (h : z < ks.length) : ∃ k, atI (ks.map V.str) z = some (.str k) ∧ k ∈ ks := by
  have hj : z.toNat < ks.length := by omega
  refine ⟨ks[z.toNat], ?_, List.getElem_mem hj⟩
  exact at_of (j := z.toNat) (by omega) (by rw [List.getElem?_map, List.getElem?_eq_getElem hj]; rfl)

--PART /work/steering/wip/parts/spans.lean
/-! ### spans -/
theorem low_high : ¬ (("low" : Str) = "high") := by decide +kernel
def spf (lo hi : Int) : List (Str × V) := putF "high" (.int hi) (putF "low" (.int lo) [])
theorem spf_low (lo hi : Int) : (spf lo hi).lookup ("low" : Str) = some (.int lo) := by
  unfold spf
  rw [lookup_putF, if_neg low_high, lookup_putF, if_pos rfl]
theorem spf_high (lo hi : Int) : (spf lo hi).lookup ("high" : Str) = some (.int hi) := by
  unfold spf
  rw [lookup_putF, if_pos rfl]
theorem spf_no (lo hi : Int) {m : Str} (h1 : ¬ m = "high") (h2 : ¬ m = "low") : (spf lo hi).lookup m = none := by
  unfold spf
  rw [lookup_putF, if_neg h1, lookup_putF, if_neg h2]
  rfl
def SpanAt (T : Env K mg) (H : Hp) (a : Addr) (lo hi : Int) : Prop := ∃ dx, H a = some (.ins T.a_Span dx (spf lo hi))
theorem SpanAt.same {T : Env K mg} {H H' : Hp} {a : Addr} {lo hi : Int} (h : SpanAt T H a lo hi) (s : Same H H') : SpanAt T H' a lo hi := by
  obtain ⟨dx, h⟩ := h
  exact ⟨dx, s _ _ h⟩
def sp_Span_init (T : Env K mg) : Sp := fun vs H Q E => ∃ (p dx : Addr) (lo hi : Int), vs = [.ref p, .int lo, .int hi] ∧ H p = some (.ins T.a_Span dx []) ∧
  (lo ≤ hi → ∀ H', SpanAt T H' p lo hi → (∀ b o, H b = some o → b ≠ p → H' b = some o) → Q .non H') ∧ (hi < lo → E (.ref T.c_BadArgument) none H)
theorem ok_Span_init (T : Env K mg) : FnOk P w K mg base (L2.CX P w) 1 T.a_Span_init T.d_Span_init ["self", "low", "high"] (sp_Span_init T) := by
  refine T.F_Span_init.okX sc_Span_init (fun vs H Q E h => by obtain ⟨_, _, _, _, rfl, _⟩ := h; rfl) (fun cdv A outer s H vs Q E hr h => ?_)
  obtain ⟨p, dx, lo, hi, rfl, hp, h1, h2⟩ := h
  refine ⟨_, (pss_cons (ps_if (pt_cmpR op_gt (pv 1) (pv 2) (nomark _)) (pss_one (ps_raise rfl (takes_of rfl rfl rfl rfl) (pmk_own PySem.F.excBase_ValueError T.e_BadArgument.xP T.e_BadArgument.gC T.e_BadArgument.kC (raises_own T.e_BadArgument.bP T.e_BadArgument.tP) (by exact rfl)))) pss_nil)
      (pss_cons (ps_fld (pv 0) (pv 1) rfl)
      (pss_one (ps_fld (pv 0) (pv 2) rfl)))), ?_⟩
  refine ⟨_, rfl, _, rfl, _, _, rfl, rfl, _, rfl, iteD (fun c => h2 c) (fun c => ?_)⟩
  refine ⟨_, rfl, _, rfl, p, T.a_Span, dx, [], rfl, hp, T.k_Span.cl, T.n_Span_low, (by show 0 < 1000; decide), ?_⟩
  refine ⟨_, rfl, _, rfl, p, T.a_Span, dx, _, rfl, upd_same, T.k_Span.cl, T.n_Span_high, (by show 1 < 1000; decide), ?_⟩
  exact h1 (by omega) _ ⟨dx, upd_same⟩ fun b o e hb => by rw [upd_ne hb, upd_ne hb]; exact e
/-- a span has been made -/
theorem span_made {T : Env K mg} {H H' : Hp} {x dx : Addr} {lo hi : Int} (nx : H x = none) (nd : H dx = none) (k : ∀ b o, (upd (upd H dx (.own x)) x (.ins T.a_Span dx [])) b = some o → b ≠ x → H' b = some o) : Same H H' := Same.made nx nd k
def sp_Span_contains (T : Env K mg) : Sp := fun vs H Q E => ∃ (a : Addr) (t lo hi : Int), vs = [.ref a, .int t] ∧ SpanAt T H a lo hi ∧ Q (.bl (decide (lo ≤ t) && decide (t ≤ hi))) H
theorem ok_Span_contains (T : Env K mg) : FnOk P w K mg base (L2.CX P w) 1 T.a_Span_contains T.d_Span_contains ["self", "time"] (sp_Span_contains T) := by
  refine T.F_Span_contains.okX sc_Span_contains (fun vs H Q E h => by obtain ⟨_, _, _, _, rfl, _⟩ := h; rfl) (fun cdv A outer s H vs Q E hr h => ?_)
  obtain ⟨a, t, lo, hi, rfl, ⟨dx, ha⟩, h1⟩ := h
  refine ⟨_, (pss_one (ps_ret (pe_chain op_le op_le (pe_fld (pv 0) rfl) (pv 1) (pe_fld (pv 0) rfl)))), ?_⟩
  refine ⟨_, rfl, a, _, _, _, _, rfl, ha, T.k_Span.cl, T.n_Span_low, spf_low _ _, _, rfl, _, _, rfl, rfl, _, rfl, iteD (fun c => ?_) (fun c => ?_)⟩
  · refine ⟨_, rfl, a, _, _, _, _, rfl, ha, T.k_Span.cl, T.n_Span_high, spf_high _ _, _, _, rfl, rfl, ?_⟩
    rw [decide_eq_true c, Bool.true_and] at h1
    exact h1
  · rw [decide_eq_false c, Bool.false_and] at h1
    exact h1
def sp_Span_is_past (T : Env K mg) : Sp := fun vs H Q E => ∃ (a : Addr) (t lo hi : Int), vs = [.ref a, .int t] ∧ SpanAt T H a lo hi ∧ Q (.bl (decide (t < lo))) H
theorem ok_Span_is_past (T : Env K mg) : FnOk P w K mg base (L2.CX P w) 1 T.a_Span_is_past T.d_Span_is_past ["self", "time"] (sp_Span_is_past T) := by
  refine T.F_Span_is_past.okX sc_Span_is_past (fun vs H Q E h => by obtain ⟨_, _, _, _, rfl, _⟩ := h; rfl) (fun cdv A outer s H vs Q E hr h => ?_)
  obtain ⟨a, t, lo, hi, rfl, ⟨dx, ha⟩, h1⟩ := h
  refine ⟨_, (pss_one (ps_ret (pe_cmpR op_lt (pv 1) (pe_fld (pv 0) rfl) (nomark _)))), ?_⟩
  exact ⟨_, rfl, _, rfl, a, _, _, _, _, rfl, ha, T.k_Span.cl, T.n_Span_low, spf_low _ _, _, _, rfl, rfl, h1⟩
--PART /work/steering/wip/parts/reader.lean
/-! ### readers -/
def oV : Option Int → V
  | none => .non
  | some i => .int i
abbrev Mp := List (Str × Option Int)
def Kp (H H' : Hp) (x : Addr) : Prop := ∀ b u, H b = some u → b ≠ x → H' b = some u
theorem Kp.of {H H' : Hp} (s : Same H H') (x : Addr) : Kp H H' x := fun b u h _ => s b u h
theorem Kp.upd {H H' : Hp} {x : Addr} {o : HO} (k : Kp H H' x) : Kp H (upd H' x o) x := fun b u h n => by
  rw [upd_ne n]
  exact k b u h n
theorem Kp.same {H H' H'' : Hp} {x : Addr} (k : Kp H H' x) (s : Same H' H'') : Kp H H'' x := fun b u h n => s _ _ (k b u h n)
theorem Same.kp {H H' H'' : Hp} {x : Addr} (s : Same H H') (k : Kp H' H'' x) : Kp H H'' x := fun b u h n => k _ _ (s _ _ h) n
theorem Kp.trans {H H' H'' : Hp} {x : Addr} (a : Kp H H' x) (b : Kp H' H'' x) : Kp H H'' x := fun y u h n => b _ _ (a y u h n) n
def grp (cs : List Str) (k : Str) : Int := ((cs.filter fun t => !decide (ltS k t)).length : Nat)
def sp_group_of_key (T : Env K mg) : Sp := fun vs H Q E => ∃ (a : Addr) (ts : List Str) (k : Str), vs = [.ref a, .str k] ∧ H a = some (.tup (ts.map V.str)) ∧ ts.length ≤ 400 ∧ ∀ H', Same H H' → Q (.int (grp ts k)) H'
theorem ok_group_of_key (T : Env K mg) : FnOk P w K mg base (L2.CX P w) 1 T.a_group_of_key T.d_group_of_key ["cuts", "key"] (sp_group_of_key T) := by
  refine T.F_group_of_key.okX sc_group_of_key (fun vs H Q E h => by obtain ⟨_, _, _, rfl, _⟩ := h; rfl) (fun cdv A outer s H vs Q E hr h => ?_)
  obtain ⟨a, ts, k, rfl, hS, hl, h1⟩ := h
  refine ⟨_, (pss_one (ps_ret (pe_callB call_len (by rfl) T.z_len (by decide +kernel) (pa_cons (pe_lc (own := [("cut", 2)]) (by rfl) sc_group_of_key.nd (pi_tup (pv 0)) (blkOk_by (own := [("cut", 2)]) (N := ["cuts", "key", "cut"]) (sc := defScope s_group_of_key) (by decide +kernel)) (fun _ _ _ _ _ => (pg_name (i := 2) sc_group_of_key.nd rfl (Or.inl rfl))) (fun _ _ _ _ _ => (pts_one (pt_cmpR op_le_str (pv 2) (pv 1) (nomark _)))) (fun _ _ _ _ _ => (pv 2))) pa_nil)))), ?_⟩
  refine ⟨_, rfl, a, rfl, ⟨_, SqT.of hS⟩, fun D hD => lc_tup (K := K) (a := a) (xs := ts.map V.str) (fun i H' => Same H H' ∧ H' D = some (.lst (((ts.take i).filter fun t => !decide (ltS k t)).map V.str))) ⟨same_new hD, upd_same⟩ (fun i H' _ h => SqT.of (h.1 _ _ hS)) ?_ ?_⟩
  · rintro i x H' hx ⟨sA, hp⟩
    obtain ⟨t, ht, rfl⟩ := mem_str hx
    have hi : i < ts.length := (List.getElem?_eq_some_iff.mp ht).1
    have hf := List.length_filter_le (fun t => !decide (ltS k t)) (ts.take i)
    rw [List.length_take] at hf
    refine ⟨rfl, _, rfl, _, rfl, _, _, rfl, rfl, ?_⟩
    by_cases c : ltS k t
    · refine ⟨_, rfl, ifF (by rw [decide_eq_true c]; rfl) ⟨sA, ?_⟩⟩
      rw [take_succ ht, List.filter_append, show [t].filter (fun t => !decide (ltS k t)) = [] by rw [List.filter_cons, decide_eq_true c]; rfl, List.append_nil]
      exact hp
    · refine ⟨_, rfl, ifT (by rw [decide_eq_false c]; rfl) ⟨_, rfl, _, hp, szl (by rw [List.length_map]; omega), same_mut sA hD, ?_⟩⟩
      rw [take_succ ht, List.filter_append, show [t].filter (fun t => !decide (ltS k t)) = [t] by rw [List.filter_cons, decide_eq_false c]; rfl, upd_same, List.map_append]
      rfl
  · rintro H' ⟨sA, hp⟩
    rw [List.length_map, List.take_length] at hp
    refine ⟨_, _, rfl, .inl ⟨_, SqL.of hp, rfl⟩, ?_⟩
    rw [List.length_map]
    exact h1 _ sA
def look (hi : Int) : Int := if hi > 1 then hi else 1
def sp_look_time (T : Env K mg) : Sp := fun vs H Q E => ∃ (b : Addr) (lo hi : Int), vs = [.ref b] ∧ SpanAt T H b lo hi ∧ Q (.int (look hi)) H
theorem ok_look_time (T : Env K mg) : FnOk P w K mg base (L2.CX P w) 1 T.a_look_time T.d_look_time ["span"] (sp_look_time T) := by
  refine T.F_look_time.okX sc_look_time (fun vs H Q E h => by obtain ⟨_, _, _, rfl, _⟩ := h; rfl) (fun cdv A outer s H vs Q E hr h => ?_)
  obtain ⟨b, lo, hi, rfl, ⟨dx, hb⟩, h1⟩ := h
  refine ⟨_, (pss_one (ps_ret (pe_callB (call_max2 rfl) (by rfl) T.z_max (by decide +kernel) (pa_cons pe_int (pa_cons (pe_fld (pv 0) rfl) pa_nil))))), ?_⟩
  exact ⟨_, rfl, b, _, _, _, _, rfl, hb, T.k_Span.cl, T.n_Span_high, spf_high _ _, _, _, rfl, h1⟩
/-- pairs in a list -/
structure GL (H : Hp) (p : Addr) (as : List Addr) (ws : Mp) : Prop where
  at_ : H p = some (.lst (as.map V.ref))
  len : as.length = ws.length
  each : ∀ (j : Nat) (a : Addr), as[j]? = some a → ∃ e, ws[j]? = some e ∧ H a = some (.tup [.str e.1, oV e.2])
theorem GL.kp {H H' : Hp} {p x : Addr} {as : List Addr} {ws : Mp} (h : GL H p as ws) (k : Kp H H' x) (n : p ≠ x) (nt : ∀ xs, H x ≠ some (.tup xs)) : GL H' p as ws := ⟨k _ _ h.at_ n, h.len, fun j a e => by
  obtain ⟨o, h1, h2⟩ := h.each j a e
  exact ⟨o, h1, k _ _ h2 fun w => nt _ (w ▸ h2)⟩⟩
theorem GL.same {H H' : Hp} {p : Addr} {as : List Addr} {ws : Mp} (h : GL H p as ws) (s : Same H H') : GL H' p as ws := ⟨s _ _ h.at_, h.len, fun j a e => by
  obtain ⟨o, h1, h2⟩ := h.each j a e
  exact ⟨o, h1, s _ _ h2⟩⟩
theorem GL.push {H H1 : Hp} {p q : Addr} {as : List Addr} {ws : Mp} (h : GL H p as ws) (s : Same H H1) {k : Str} {v : Option Int} (hq : H1 q = some (.tup [.str k, oV v])) : GL (upd H1 p (.lst (as.map V.ref ++ [.ref q]))) p (as ++ [q]) (ws ++ [(k, v)]) := by
  have hp1 := s _ _ h.at_
  have ne : ∀ {b : Addr} {xs : List V}, H1 b = some (.tup xs) → b ≠ p := fun hb w => by
    rw [w, hp1] at hb
    cases hb
  refine ⟨by rw [upd_same, List.map_append]; rfl, by rw [List.length_append, List.length_append, h.len]; rfl, fun j b hj => ?_⟩
  by_cases c : j < as.length
  · rw [List.getElem?_append_left c] at hj
    obtain ⟨e, g2, g3⟩ := h.each j b hj
    have g4 := s _ _ g3
    exact ⟨e, by rw [List.getElem?_append_left (by rw [← h.len]; exact c)]; exact g2, by rw [upd_ne (ne g4)]; exact g4⟩
  · have hj2 : j = as.length := by
      have := (List.getElem?_eq_some_iff.mp hj).1
      rw [List.length_append] at this
      have : j < as.length + 1 := this
      omega
    subst hj2
    rw [List.getElem?_append_right (Nat.le_refl _), Nat.sub_self] at hj
    have eb : q = b := Option.some.inj hj
    subst eb
    exact ⟨(k, v), by rw [h.len, List.getElem?_append_right (Nat.le_refl _), Nat.sub_self]; rfl, by rw [upd_ne (ne hq)]; exact hq⟩
theorem via2p {G : Prop} {R : L2.St → Hp → Prop} (A : L2.St → Hp → Prop) (k : (∀ σ H1, A σ H1 → R σ H1) → G) (fin : ∀ σ H1, A σ H1 → R σ H1) : G := k fin
/-- what a reader is -/
structure RS where
  ph : Str
  tm : Option Int
  got : Mp
def RN : List Str := ["_number", "_wanted", "_cuts", "_phase", "_time", "_got"]
def rv (n : Int) (w c g : Addr) (S : RS) : List V := [.int n, .ref w, .ref c, .str S.ph, oV S.tm, .ref g]
structure RdAt (T : Env K mg) (H : Hp) (a w c g : Addr) (n : Int) (ks cs : List Str) (as : List Addr) (S : RS) : Prop where
  ob : ∃ dx, H a = some (.ins T.a_Reader dx (RN.zip (rv n w c g S)))
  wa : H w = some (.tup (ks.map V.str))
  cu : H c = some (.tup (cs.map V.str))
  go : GL H g as S.got
theorem RdAt.same {T : Env K mg} {H H' : Hp} {a w c g : Addr} {n : Int} {ks cs : List Str} {as : List Addr} {S : RS} (h : RdAt T H a w c g n ks cs as S) (s : Same H H') : RdAt T H' a w c g n ks cs as S := ⟨h.ob.elim fun dx q => ⟨dx, s _ _ q⟩, s _ _ h.wa, s _ _ h.cu, h.go.same s⟩
theorem RdAt.kp {T : Env K mg} {H H' : Hp} {a w c g x : Addr} {n : Int} {ks cs : List Str} {as : List Addr} {S : RS} (h : RdAt T H a w c g n ks cs as S) (k : Kp H H' x) (na : a ≠ x) (ng : g ≠ x) (nt : ∀ xs, H x ≠ some (.tup xs)) : RdAt T H' a w c g n ks cs as S := ⟨h.ob.elim fun dx q => ⟨dx, k _ _ q na⟩, k _ _ h.wa fun z => nt _ (z ▸ h.wa), k _ _ h.cu fun z => nt _ (z ▸ h.cu), h.go.kp k ng nt⟩
theorem rl {n : Int} {w c g : Addr} {S : RS} {k : Str} {v : V} (i : Nat) (h1 : RN.idxOf k = i) (h2 : i < 6) (hv : (rv n w c g S)[i]? = some v) : (RN.zip (rv n w c g S)).lookup k = some v := by
  rw [zlook i h1 h2 rfl, hv]
theorem rno {n : Int} {w c g : Addr} {S : RS} {k : Str} (h1 : k ∉ RN) : (RN.zip (rv n w c g S)).lookup k = none := zno h1
def sp_Reader_phase (T : Env K mg) : Sp := fun vs H Q E => ∃ (a w c g : Addr) (n : Int) (ks cs : List Str) (as : List Addr) (S : RS), vs = [.ref a] ∧ RdAt T H a w c g n ks cs as S ∧ Q (.str S.ph) H
theorem ok_Reader_phase (T : Env K mg) : FnOk P w K mg base (L2.CX P w) 1 T.a_Reader_phase T.d_Reader_phase ["self"] (sp_Reader_phase T) := by
  refine T.F_Reader_phase.okX sc_Reader_phase (fun vs H Q E h => by obtain ⟨_, _, _, _, _, _, _, _, _, rfl, _⟩ := h; rfl) (fun cdv A outer s H vs Q E hr h => ?_)
  obtain ⟨a, w, c, g, n, ks, cs, as, S, rfl, hR, h1⟩ := h
  refine ⟨_, (pss_one (ps_ret (pe_fld (pv 0) rfl))), ?_⟩
  obtain ⟨dx, ha⟩ := hR.ob
  exact ⟨_, rfl, a, _, _, _, _, rfl, ha, T.k_Reader.cl, T.n_Reader__phase, rl 3 (by decide +kernel) (by decide) rfl, h1⟩
def sp_Reader_time (T : Env K mg) : Sp := fun vs H Q E => ∃ (a w c g : Addr) (n : Int) (ks cs : List Str) (as : List Addr) (S : RS), vs = [.ref a] ∧ RdAt T H a w c g n ks cs as S ∧ Q (oV S.tm) H
theorem ok_Reader_time (T : Env K mg) : FnOk P w K mg base (L2.CX P w) 1 T.a_Reader_time T.d_Reader_time ["self"] (sp_Reader_time T) := by
  refine T.F_Reader_time.okX sc_Reader_time (fun vs H Q E h => by obtain ⟨_, _, _, _, _, _, _, _, _, rfl, _⟩ := h; rfl) (fun cdv A outer s H vs Q E hr h => ?_)
  obtain ⟨a, w, c, g, n, ks, cs, as, S, rfl, hR, h1⟩ := h
  refine ⟨_, (pss_one (ps_ret (pe_fld (pv 0) rfl))), ?_⟩
  obtain ⟨dx, ha⟩ := hR.ob
  exact ⟨_, rfl, a, _, _, _, _, rfl, ha, T.k_Reader.cl, T.n_Reader__time, rl 4 (by decide +kernel) (by decide) rfl, h1⟩
def sp_Reader_number (T : Env K mg) : Sp := fun vs H Q E => ∃ (a w c g : Addr) (n : Int) (ks cs : List Str) (as : List Addr) (S : RS), vs = [.ref a] ∧ RdAt T H a w c g n ks cs as S ∧ Q (.int n) H
theorem ok_Reader_number (T : Env K mg) : FnOk P w K mg base (L2.CX P w) 1 T.a_Reader_number T.d_Reader_number ["self"] (sp_Reader_number T) := by
  refine T.F_Reader_number.okX sc_Reader_number (fun vs H Q E h => by obtain ⟨_, _, _, _, _, _, _, _, _, rfl, _⟩ := h; rfl) (fun cdv A outer s H vs Q E hr h => ?_)
  obtain ⟨a, w, c, g, n, ks, cs, as, S, rfl, hR, h1⟩ := h
  refine ⟨_, (pss_one (ps_ret (pe_fld (pv 0) rfl))), ?_⟩
  obtain ⟨dx, ha⟩ := hR.ob
  exact ⟨_, rfl, a, _, _, _, _, rfl, ha, T.k_Reader.cl, T.n_Reader__number, rl 0 (by decide +kernel) (by decide) rfl, h1⟩
def sp_Reader_got (T : Env K mg) : Sp := fun vs H Q E => ∃ (a w c g : Addr) (n : Int) (ks cs : List Str) (as : List Addr) (S : RS), vs = [.ref a] ∧ RdAt T H a w c g n ks cs as S ∧ ∀ p H', Same H H' → H p = none → GL H' p as S.got → Q (.ref p) H'
theorem ok_Reader_got (T : Env K mg) : FnOk P w K mg base (L2.CX P w) 1 T.a_Reader_got T.d_Reader_got ["self"] (sp_Reader_got T) := by
  refine T.F_Reader_got.okX sc_Reader_got (fun vs H Q E h => by obtain ⟨_, _, _, _, _, _, _, _, _, rfl, _⟩ := h; rfl) (fun cdv A outer s H vs Q E hr h => ?_)
  obtain ⟨a, w, c, g, n, ks, cs, as, S, rfl, hR, h1⟩ := h
  refine ⟨_, (pss_one (ps_ret (pe_callTy call_list_of (by rfl) T.z_list (by decide +kernel) (pa_cons (pe_fld (pv 0) rfl) pa_nil)))), ?_⟩
  obtain ⟨dx, ha⟩ := hR.ob
  refine ⟨_, rfl, a, _, _, _, _, rfl, ha, T.k_Reader.cl, T.n_Reader__got, rl 5 (by decide +kernel) (by decide) rfl, g, _, rfl, .inl (SqL.of hR.go.at_), fun q nq => ?_⟩
  have s := same_new (o := .lst (as.map V.ref)) nq
  exact h1 q _ s nq ⟨upd_same, hR.go.len, (hR.go.same s).each⟩
def sp_Reader__next_key (T : Env K mg) : Sp := fun vs H Q E => ∃ (a w c g : Addr) (n : Int) (ks cs : List Str) (as : List Addr) (S : RS) (k : Str), vs = [.ref a] ∧ RdAt T H a w c g n ks cs as S ∧ ks[S.got.length]? = some k ∧ Q (.str k) H
theorem ok_Reader__next_key (T : Env K mg) : FnOk P w K mg base (L2.CX P w) 1 T.a_Reader__next_key T.d_Reader__next_key ["self"] (sp_Reader__next_key T) := by
  refine T.F_Reader__next_key.okX sc_Reader__next_key (fun vs H Q E h => by obtain ⟨_, _, _, _, _, _, _, _, _, _, rfl, _⟩ := h; rfl) (fun cdv A outer s H vs Q E hr h => ?_)
  obtain ⟨a, w, c, g, n, ks, cs, as, S, k, rfl, hR, hk, h1⟩ := h
  refine ⟨_, (pss_one (ps_ret (pe_ix ix_tup (pe_fld (pv 0) rfl) (pe_callB call_len (by rfl) T.z_len (by decide +kernel) (pa_cons (pe_fld (pv 0) rfl) pa_nil)) (fun _ _ => rfl)))), ?_⟩
  obtain ⟨dx, ha⟩ := hR.ob
  refine ⟨_, rfl, a, _, _, _, _, rfl, ha, T.k_Reader.cl, T.n_Reader__wanted, rl 1 (by decide +kernel) (by decide) rfl, _, rfl, a, _, _, _, _, rfl, ha, T.k_Reader.cl, T.n_Reader__got, rl 5 (by decide +kernel) (by decide) rfl, _, _, rfl, .inl ⟨_, SqL.of hR.go.at_, rfl⟩, w, _, _, .str k, rfl, rfl, SqT.of hR.wa, ?_, h1⟩
  refine at_of (j := S.got.length) ?_ (by rw [List.getElem?_map, hk]; rfl)
  rw [List.length_map, hR.go.len]
def sp_Reader_init (T : Env K mg) : Sp := fun vs H Q E => ∃ (p dx : Addr) (n : Int) (kA cA : Addr) (ks cs : List Str), vs = [.ref p, .int n, .ref kA, .ref cA] ∧ H p = some (.ins T.a_Reader dx []) ∧ H kA = some (.lst (ks.map V.str)) ∧ H cA = some (.lst (cs.map V.str)) ∧ ∀ w c g H', H w = none → H c = none → H g = none → RdAt T H' p w c g n ks cs [] ⟨"new", none, []⟩ → Kp H H' p → Q .non H'
theorem ok_Reader_init (T : Env K mg) : FnOk P w K mg base (L2.CX P w) 1 T.a_Reader_init T.d_Reader_init ["self", "number", "keys", "cuts"] (sp_Reader_init T) := by
  refine T.F_Reader_init.okX sc_Reader_init (fun vs H Q E h => by obtain ⟨_, _, _, _, _, _, _, rfl, _⟩ := h; rfl) (fun cdv A outer s H vs Q E hr h => ?_)
  obtain ⟨p, dx, n, kA, cA, ks, cs, rfl, hp, hk, hc, h1⟩ := h
  refine ⟨_, (pss_cons (ps_fld (pv 0) (pv 1) rfl)
      (pss_cons (ps_fld (pv 0) (pe_callTy call_tuple_of (by rfl) T.z_tuple (by decide +kernel) (pa_cons (pv 2) pa_nil)) rfl)
      (pss_cons (ps_fld (pv 0) (pe_callTy call_tuple_of (by rfl) T.z_tuple (by decide +kernel) (pa_cons (pv 3) pa_nil)) rfl)
      (pss_cons (ps_fld (pv 0) (pe_glob rfl T.k_NEW T.r_NEW) rfl)
      (pss_cons (ps_fld (pv 0) pe_non rfl)
      (pss_one (ps_fld (pv 0) (pe_lst pa_nil) rfl))))))), ?_⟩
  refine ⟨_, rfl, _, rfl, p, _, _, _, rfl, hp, T.k_Reader.cl, T.n_Reader__number, (by show 0 < 1000; decide), ?_⟩
  have e1 : putF "_number" (V.int n) [] = (["_number"] : List Str).zip [V.int n] := rfl
  rw [e1]
  have k1 : Kp H (upd H p (.ins T.a_Reader dx ((["_number"] : List Str).zip [V.int n]))) p := (Kp.of (Same.refl _) p).upd
  have ne : ∀ {b : Addr} {u : HO}, H b = some u → (∀ C d f, u ≠ .ins C d f) → b ≠ p := fun hb hu q => by
    rw [q, hp] at hb
    exact hu _ _ _ (Option.some.inj hb).symm
  have hk1 := k1 _ _ hk (ne hk fun _ _ _ q => by cases q)
  have hc1 := k1 _ _ hc (ne hc fun _ _ _ q => by cases q)
  have hp1 : upd H p (.ins T.a_Reader dx ((["_number"] : List Str).zip [V.int n])) p = _ := upd_same
  show tSeq _ _ _ _ (upd H p (.ins T.a_Reader dx ((["_number"] : List Str).zip [V.int n])))
  have nf : ∀ {b : Addr}, upd H p (.ins T.a_Reader dx ((["_number"] : List Str).zip [V.int n])) b = none → H b = none := fun {b} hb => by
    by_cases q : b = p
    · rw [q, upd_same] at hb; cases hb
    · rw [upd_ne q] at hb; exact hb
  generalize upd H p (.ins T.a_Reader dx ((["_number"] : List Str).zip [V.int n])) = H1 at k1 hk1 hc1 hp1 nf
  refine ⟨_, rfl, kA, _, rfl, .inl ⟨SqL.of hk1, fun w nw => ⟨_, rfl, p, _, _, _, rfl, same_new nw _ _ hp1, T.k_Reader.cl, T.n_Reader__wanted, (by show 1 < 1000; decide), ?_⟩⟩⟩
  rw [znew (by decide +kernel) rfl]
  have wp : w ≠ p := (ne_of_none hp1 nw).symm
  have nw0 := nf nw
  have go2 : ∀ U, U = upd (upd H1 w (.tup (ks.map V.str))) p (.ins T.a_Reader dx (([("_number" : Str)] ++ [("_wanted" : Str)]).zip ([V.int n] ++ [V.ref w]))) → Kp H U p ∧ U w = some (.tup (ks.map V.str)) ∧ U p = some (.ins T.a_Reader dx (([("_number" : Str)] ++ [("_wanted" : Str)]).zip ([V.int n] ++ [V.ref w]))) ∧ ∀ b, U b = none → H b = none := by
    rintro U rfl
    refine ⟨(k1.same (same_new nw)).upd, by rw [upd_ne wp, upd_same], upd_same, fun b hb => ?_⟩
    by_cases q : b = p
    · rw [q, upd_same] at hb; cases hb
    · rw [upd_ne q] at hb
      exact nf ((same_new nw).free hb)
  obtain ⟨k2, hw2, hp2, nf2⟩ := go2 _ rfl
  clear go2
  generalize upd (upd H1 w (.tup (ks.map V.str))) p (.ins T.a_Reader dx (([("_number" : Str)] ++ [("_wanted" : Str)]).zip ([V.int n] ++ [V.ref w]))) = H2 at k2 hw2 hp2 nf2
  have hc2 := k2 _ _ hc (ne hc fun _ _ _ q => by cases q)
  refine ⟨_, rfl, cA, _, rfl, .inl ⟨SqL.of hc2, fun c nc => ⟨_, rfl, p, _, _, _, rfl, same_new nc _ _ hp2, T.k_Reader.cl, T.n_Reader__cuts, (by show 2 < 1000; decide), ?_⟩⟩⟩
  rw [znew (by decide +kernel) rfl]
  have cp : c ≠ p := (ne_of_none hp2 nc).symm
  have wc : w ≠ c := ne_of_none hw2 nc
  have nc0 := nf2 c nc
  refine ⟨_, rfl, p, _, _, _, rfl, upd_same, T.k_Reader.cl, T.n_Reader__phase, (by show 3 < 1000; decide), ?_⟩
  rw [znew (by decide +kernel) rfl]
  refine ⟨_, rfl, p, _, _, _, rfl, upd_same, T.k_Reader.cl, T.n_Reader__time, (by show 4 < 1000; decide), ?_⟩
  rw [znew (by decide +kernel) rfl]
  refine ⟨Nat.zero_le _, fun g ng => ?_⟩
  have gp : g ≠ p := (ne_of_none upd_same ng).symm
  have ng2 : upd H2 c (.tup (cs.map V.str)) g = none := by
    rw [upd_ne gp, upd_ne gp, upd_ne gp] at ng
    exact ng
  have gc : g ≠ c := (ne_of_none upd_same ng2).symm
  have ng3 : H2 g = none := by
    rw [upd_ne gc] at ng2
    exact ng2
  have wg : w ≠ g := ne_of_none hw2 ng3
  refine ⟨_, rfl, p, _, _, _, rfl, (by rw [upd_ne (Ne.symm gp), upd_same]), T.k_Reader.cl, T.n_Reader__got, (by show 5 < 1000; decide), ?_⟩
  rw [znew (by decide +kernel) rfl]
  refine h1 w c g _ nw0 nc0 (nf2 g ng3) ⟨⟨dx, upd_same⟩, ?_, ?_, ⟨?_, rfl, fun j b hj => by simp at hj⟩⟩ fun b u hb hn => ?_
  · rw [upd_ne wp, upd_ne wg, upd_ne wp, upd_ne wp, upd_ne wp, upd_ne wc]
    exact hw2
  · rw [upd_ne cp, upd_ne (Ne.symm gc), upd_ne cp, upd_ne cp, upd_ne cp, upd_same]
  · rw [upd_ne gp, upd_same]
    rfl
  · have h2 := k2 b u hb hn
    rw [upd_ne hn, upd_ne (ne_of_none h2 ng3), upd_ne hn, upd_ne hn, upd_ne hn, upd_ne (ne_of_none h2 nc)]
    exact h2
/-! pushing -/
abbrev Rs := Option (Int × Int × Str × Option Int)
inductive PAt (H : Hp) : Addr → Rs → Prop
  | no (p : Addr) (h : H p = some (.lst [])) : PAt H p none
  | yes (p x y : Addr) (g n : Int) (k : Str) (t : Option Int) (h : H p = some (.lst [.ref x])) (hx : H x = some (.tup [.int g, .ref y])) (hy : H y = some (.tup [.str "look", .int n, .str k, oV t])) : PAt H p (some (g, n, k, t))
theorem PAt.kp {H H' : Hp} {p x : Addr} {r : Rs} (h : PAt H p r) (k : Kp H H' x) (n : p ≠ x) (nt : ∀ xs, H x ≠ some (.tup xs)) : PAt H' p r := by
  cases h with
  | no h => exact .no _ (k _ _ h n)
  | yes a b g m s t h ha hb => exact .yes _ a b g m s t (k _ _ h n) (k _ _ ha fun wA => nt _ (wA ▸ ha)) (k _ _ hb fun wA => nt _ (wA ▸ hb))
def rbeg (S : RS) (hi : Int) : RS := if S.ph = "new" then ⟨"reading", some (look hi), S.got⟩ else S
def rend (S : RS) (lo : Int) : RS := if S.ph = "waiting" ∧ S.tm.getD 0 < lo then ⟨"ended", S.tm, S.got⟩ else S
def rps (S : RS) (lo hi : Int) : RS := if (rbeg S hi).ph = "reading" then rbeg S hi else rend (rbeg S hi) lo
def rpr (S : RS) (n : Int) (ks cs : List Str) (hi : Int) : Rs := if (rbeg S hi).ph = "reading" then some (grp cs (ks.getD S.got.length Str.empty), n, ks.getD S.got.length Str.empty, (rbeg S hi).tm) else none
structure Ri (ks : List Str) (S : RS) : Prop where
  nx : S.ph = "new" ∨ S.ph = "reading" → S.got.length < ks.length
  tm : S.ph = "new" ∨ ∃ t, S.tm = some t
theorem dstr {x y : Str} : decide (V.str x = V.str y) = decide (x = y) := by
  by_cases h : x = y
  · rw [decide_eq_true h, decide_eq_true (by rw [h])]
  · rw [decide_eq_false h, decide_eq_false fun q => h (V.str.inj q)]
def sp_Reader_push (T : Env K mg) : Sp := fun vs H Q E => ∃ (a wA c g b : Addr) (n : Int) (ks cs : List Str) (as : List Addr) (S : RS) (lo hi : Int), vs = [.ref a, .ref b] ∧ RdAt T H a wA c g n ks cs as S ∧ SpanAt T H b lo hi ∧ Ri ks S ∧ cs.length ≤ 400 ∧ a ≠ b ∧
  ∀ p H', Kp H H' a → H p = none → RdAt T H' a wA c g n ks cs as (rps S lo hi) → PAt H' p (rpr S n ks cs hi) → Q (.ref p) H'
theorem ok_Reader_push (T : Env K mg) : FnOk P w K mg base (L2.CX P w) 3 T.a_Reader_push T.d_Reader_push ["self", "span"] (sp_Reader_push T) := by
  refine T.F_Reader_push.okX sc_Reader_push (fun vs H Q E h => by obtain ⟨_, _, _, _, _, _, _, _, _, _, _, _, rfl, _⟩ := h; rfl) (fun cdv A outer s H vs Q E hr h => ?_)
  obtain ⟨a, wA, c, g, b, n, ks, cs, as, S, lo, hi, rfl, hR, hS, hI, hcl, hab, h1⟩ := h
  have hu64 := hu64_of hr
  have G_look_time := ok_look_time (P := P) (w := w) (base := base) T
  have G_Reader__next_key := ok_Reader__next_key (P := P) (w := w) (base := base) T
  have G_Span_is_past := ok_Span_is_past (P := P) (w := w) (base := base) T
  have G_group_of_key := ok_group_of_key (P := P) (w := w) (base := base) T
  refine ⟨_, (pss_cons (ps_if (pt_cmpR op_eq (pe_fld (pv 0) rfl) (pe_glob rfl T.k_NEW T.r_NEW) (nomark _)) (pss_cons (ps_fld (pv 0) (pe_call G_look_time (hr.mono (by decide)) rfl T.g_look_time T.F_look_time.kp T.b_look_time .nil passL (pa_cons (pv 1) pa_nil)) rfl)
      (pss_one (ps_fld (pv 0) (pe_glob rfl T.k_READING T.r_READING) rfl))) pss_nil)
      (pss_cons (ps_if (pt_cmpR op_eq (pe_fld (pv 0) rfl) (pe_glob rfl T.k_READING T.r_READING) (nomark _)) (pss_cons (ps_set (i := 2) sc_Reader_push.nd rfl (Or.inl rfl) (pe_meth0 (pv 0) T.k_Reader.cl T.m_Reader__next_key G_Reader__next_key (hr.mono (by decide)) T.b_Reader__next_key .nil passL))
      (pss_one (ps_ret (pe_lst (pa_cons (pe_tup (pa_cons (pe_call G_group_of_key (hr.mono (by decide)) rfl T.g_group_of_key T.F_group_of_key.kp T.b_group_of_key .nil passL (pa_cons (pe_fld (pv 0) rfl) (pa_cons (pv 2) pa_nil))) (pa_cons (pe_tup (pa_cons pe_str (pa_cons (pe_fld (pv 0) rfl) (pa_cons (pv 2) (pa_cons (pe_fld (pv 0) rfl) pa_nil))))) pa_nil))) pa_nil))))) pss_nil)
      (pss_cons (ps_if (PW.pt (pw_and (pt_cmpR op_eq (pe_fld (pv 0) rfl) (pe_glob rfl T.k_WAITING T.r_WAITING) (nomark _)) (pw_and1 (pt_val (pe_meth (pv 1) T.k_Span.cl T.m_Span_is_past G_Span_is_past (hr.mono (by decide)) T.b_Span_is_past .nil passL (pa_cons (pe_fld (pv 0) rfl) pa_nil)))))) (pss_one (ps_fld (pv 0) (pe_glob rfl T.k_ENDED T.r_ENDED) rfl)) pss_nil)
      (pss_one (ps_ret (pe_lst pa_nil)))))), ?_⟩
  obtain ⟨dx, ha⟩ := hR.ob
  have ga : g ≠ a := fun q => by
    have := hR.go.at_
    rw [q, ha] at this
    cases this
  have nta : ∀ {H' : Hp} {dx fs}, H' a = some (.ins T.a_Reader dx fs) → ∀ xs, H' a ≠ some (.tup xs) := fun h xs q => by
    rw [h] at q
    cases q
  refine ⟨_, rfl, a, _, _, _, _, rfl, ha, T.k_Reader.cl, T.n_Reader__phase, rl 3 (by decide +kernel) (by decide) rfl, rfl, _, rfl, ?_⟩
  rw [dstr]
  apply via2p (fun σ HX => σ = [some (.ref a), some (.ref b), none] ∧ Kp H HX a ∧ RdAt T HX a wA c g n ks cs as (rbeg S hi) ∧ SpanAt T HX b lo hi)
  · intro fin
    refine iteD (fun c1 => ?_) (fun c1 => ?_)
    · have eb : rbeg S hi = ⟨"reading", some (look hi), S.got⟩ := if_pos c1
      refine ⟨_, rfl, b, lo, hi, rfl, hS, _, rfl, a, _, _, _, rfl, ha, T.k_Reader.cl, T.n_Reader__time, (by rw [List.length_zip]; exact Nat.lt_of_le_of_lt (Nat.min_le_left _ _) (by decide)), ?_⟩
      rw [zput 4 (by decide +kernel) (by decide) rfl]
      refine ⟨_, rfl, a, _, _, _, rfl, upd_same, T.k_Reader.cl, T.n_Reader__phase, (by rw [List.length_zip]; exact Nat.lt_of_le_of_lt (Nat.min_le_left _ _) (by decide)), ?_⟩
      rw [zput 3 (by decide +kernel) (by decide) rfl]
      have k : Kp H (upd (upd H a (.ins T.a_Reader dx (RN.zip ((rv n wA c g S).set 4 (.int (look hi)))))) a (.ins T.a_Reader dx (RN.zip (((rv n wA c g S).set 4 (.int (look hi))).set 3 (.str "reading"))))) a := (Kp.of (Same.refl H) a).upd.upd
      refine fin _ _ ⟨rfl, k, ?_, ?_⟩
      · rw [eb]
        exact ⟨⟨dx, upd_same⟩, k _ _ hR.wa fun q => nta ha _ (q ▸ hR.wa), k _ _ hR.cu fun q => nta ha _ (q ▸ hR.cu), hR.go.kp k ga (nta ha)⟩
      · obtain ⟨d2, h2⟩ := hS
        exact ⟨d2, k _ _ h2 (Ne.symm hab)⟩
    · have eb : rbeg S hi = S := if_neg c1
      exact fin _ _ ⟨rfl, Kp.of (Same.refl _) _, by rw [eb]; exact hR, hS⟩
  rintro σ H1 ⟨rfl, k1, hR1, hS1⟩
  have eg : (rbeg S hi).got = S.got := by
    unfold rbeg
    split <;> rfl
  obtain ⟨d1, ha1⟩ := hR1.ob
  have nf : ∀ {x : Addr}, H1 x = none → H x = none := fun {x} hx => by
    cases q : H x with
    | none => rfl
    | some u =>
      by_cases e : x = a
      · rw [e, ha1] at hx; cases hx
      · rw [k1 x u q e] at hx; cases hx
  refine ⟨_, rfl, a, _, _, _, _, rfl, ha1, T.k_Reader.cl, T.n_Reader__phase, rl 3 (by decide +kernel) (by decide) rfl, rfl, _, rfl, ?_⟩
  rw [dstr]
  refine iteD (fun c2 => ?_) (fun c2 => ?_)
  · have hlt : S.got.length < ks.length := hI.nx (by
      by_cases q : S.ph = "new"
      · exact .inl q
      · refine .inr ?_
        have : rbeg S hi = S := if_neg q
        rw [this] at c2
        exact c2)
    have hk : ks[(rbeg S hi).got.length]? = some (ks.getD S.got.length Str.empty) := by
      rw [eg, List.getD_eq_getElem?_getD, List.getElem?_eq_getElem hlt]
      rfl
    refine ⟨_, rfl, a, _, _, rfl, ha1, rno (by decide +kernel), a, wA, c, g, n, ks, cs, as, _, _, rfl, hR1, hk, ?_⟩
    refine ⟨_, rfl, a, _, _, _, _, rfl, ha1, T.k_Reader.cl, T.n_Reader__cuts, rl 2 (by decide +kernel) (by decide) rfl, _, rfl, c, cs, _, rfl, hR1.cu, hcl, fun H2 s2 => ?_⟩
    have ha2 := s2 _ _ ha1
    refine ⟨_, rfl, a, _, _, _, _, rfl, ha2, T.k_Reader.cl, T.n_Reader__number, rl 0 (by decide +kernel) (by decide) rfl, _, rfl, _, rfl, a, _, _, _, _, rfl, ha2, T.k_Reader.cl, T.n_Reader__time, rl 4 (by decide +kernel) (by decide) rfl, (by show 4 ≤ sizeLine; decide), fun y ny => ⟨(by show 2 ≤ sizeLine; decide), fun x nx => ⟨(by show 1 ≤ sizeLine; decide), fun p np => ?_⟩⟩⟩
    have sy := same_new (o := .tup [.str "look", .int n, .str (ks.getD S.got.length Str.empty), oV (rbeg S hi).tm]) ny
    have sx := same_new (o := .tup [.int (grp cs (ks.getD S.got.length Str.empty)), .ref y]) nx
    have sp := same_new (o := .lst [.ref x]) np
    have s3 := ((s2.trans sy).trans sx).trans sp
    refine h1 p _ (k1.same s3) (nf (((s2.trans sy).trans sx).free np)) ?_ ?_
    · rw [show rps S lo hi = rbeg S hi from if_pos c2]
      exact hR1.same s3
    · rw [show rpr S n ks cs hi = some _ from if_pos c2]
      exact .yes p x y _ _ _ _ upd_same (sp _ _ upd_same) (sp _ _ (sx _ _ upd_same))
  · have er : rpr S n ks cs hi = none := if_neg c2
    have es : rps S lo hi = rend (rbeg S hi) lo := if_neg c2
    rw [er, es] at h1
    have fin : ∀ HX, Kp H HX a → RdAt T HX a wA c g n ks cs as (rend (rbeg S hi) lo) → (∀ x, HX x = none → H x = none) → ∀ p, HX p = none → Q (.ref p) (upd HX p (.lst [])) := fun HX kX hX nX p np => h1 p _ (kX.same (same_new np)) (nX p np) (hX.same (same_new np)) (.no p upd_same)
    refine ⟨_, rfl, a, _, _, _, _, rfl, ha1, T.k_Reader.cl, T.n_Reader__phase, rl 3 (by decide +kernel) (by decide) rfl, rfl, _, rfl, ?_⟩
    rw [dstr]
    have htm : ∃ t, (rbeg S hi).tm = some t := by
      by_cases q : S.ph = "new"
      · exact ⟨look hi, by rw [show rbeg S hi = _ from if_pos q]⟩
      · rw [show rbeg S hi = S from if_neg q]
        exact hI.tm.resolve_left q
    obtain ⟨t, ht⟩ := htm
    refine iteD (fun c3 => ?_) (fun c3 => ?_)
    · obtain ⟨d2, hb1⟩ := id hS1
      refine ⟨_, rfl, b, _, _, rfl, hb1, spf_no _ _ (by decide +kernel) (by decide +kernel), _, rfl, a, _, _, _, _, rfl, ha1, T.k_Reader.cl, T.n_Reader__time, rl 4 (by decide +kernel) (by decide) rfl, b, t, lo, hi, (by rw [ht]; rfl), hS1, _, rfl, iteD (fun c4 => ?_) (fun c4 => ?_)⟩
      · refine ⟨_, rfl, a, _, _, _, rfl, ha1, T.k_Reader.cl, T.n_Reader__phase, (by rw [List.length_zip]; exact Nat.lt_of_le_of_lt (Nat.min_le_left _ _) (by decide)), ?_⟩
        rw [zput 3 (by decide +kernel) (by decide) rfl]
        have k2 : Kp H1 (upd H1 a (.ins T.a_Reader d1 (RN.zip ((rv n wA c g (rbeg S hi)).set 3 (.str "ended"))))) a := (Kp.of (Same.refl H1) a).upd
        refine ⟨Nat.zero_le _, fun p np => fin _ (k1.trans k2) ?_ (fun x hx => nf ?_) p np⟩
        · rw [show rend (rbeg S hi) lo = ⟨"ended", (rbeg S hi).tm, (rbeg S hi).got⟩ from if_pos ⟨c3, by rw [ht]; exact c4⟩]
          exact ⟨⟨d1, upd_same⟩, k2 _ _ hR1.wa fun q => nta ha1 _ (q ▸ hR1.wa), k2 _ _ hR1.cu fun q => nta ha1 _ (q ▸ hR1.cu), hR1.go.kp k2 ga (nta ha1)⟩
        · by_cases e : x = a
          · rw [e, upd_same] at hx; cases hx
          · rw [upd_ne e] at hx; exact hx
      · refine ⟨Nat.zero_le _, fun p np => fin _ k1 ?_ (fun x hx => nf hx) p np⟩
        rw [show rend (rbeg S hi) lo = rbeg S hi from if_neg fun q => c4 (by have := q.2; rw [ht] at this; exact this)]
        exact hR1
    · refine ⟨Nat.zero_le _, fun p np => fin _ k1 ?_ (fun x hx => nf hx) p np⟩
      rw [show rend (rbeg S hi) lo = rbeg S hi from if_neg fun q => c3 q.1]
      exact hR1
/-! receiving -/
structure Lt where
  seen : Bool
  n : Int
  k : Str
  v : Option Int
inductive LAt (H : Hp) : Addr → Lt → Prop
  | seen (p : Addr) (n : Int) (k : Str) (v : Option Int) (h : H p = some (.tup [.str "seen", .int n, .str k, oV v])) : LAt H p ⟨true, n, k, v⟩
  | other (p : Addr) (n : Int) (k : Str) (v : Option Int) (h : H p = some (.tup [.str "value", .int n, .str k, .int 5, .int 1])) : LAt H p ⟨false, n, k, v⟩
def hit (S : RS) (n : Int) (ks : List Str) (L : Lt) : Bool := L.seen && decide (L.n = n) && decide (S.ph = "reading") && decide (L.k = ks.getD S.got.length Str.empty)
def rrc (S : RS) (n : Int) (ks : List Str) (L : Lt) : RS := if hit S n ks L = true then ⟨if S.got.length + 1 = ks.length then "waiting" else S.ph, S.tm, S.got ++ [(L.k, L.v)]⟩ else S
def Kp2 (H H' : Hp) (x y : Addr) : Prop := ∀ b u, H b = some u → b ≠ x → b ≠ y → H' b = some u
def sp_Reader_receive (T : Env K mg) : Sp := fun vs H Q E => ∃ (a wA c g l : Addr) (n : Int) (ks cs : List Str) (as : List Addr) (S : RS) (L : Lt), vs = [.ref a, .ref l] ∧ RdAt T H a wA c g n ks cs as S ∧ LAt H l L ∧ Ri ks S ∧ S.got.length ≤ 1000 ∧
  ∀ as' H', Kp2 H H' a g → RdAt T H' a wA c g n ks cs as' (rrc S n ks L) → Q .non H'
theorem ok_Reader_receive (T : Env K mg) : FnOk P w K mg base (L2.CX P w) 3 T.a_Reader_receive T.d_Reader_receive ["self", "letter"] (sp_Reader_receive T) := by
  refine T.F_Reader_receive.okX sc_Reader_receive (fun vs H Q E h => by obtain ⟨_, _, _, _, _, _, _, _, _, _, _, rfl, _⟩ := h; rfl) (fun cdv A outer s H vs Q E hr h => ?_)
  obtain ⟨a, wA, c, g, l, n, ks, cs, as, S, L, rfl, hR, hL, hI, hgl, h1⟩ := h
  have hu64 := hu64_of hr
  have G_Reader__next_key := ok_Reader__next_key (P := P) (w := w) (base := base) T
  refine ⟨_, (pss_cons (ps_if (PW.pt (pw_or (pt_cmpR op_ne (pe_ix ix_tup (pv 1) pe_int (fun _ _ => rfl)) pe_str (nomark _)) (pw_or (pt_cmpR op_ne (pe_ix ix_tup (pv 1) pe_int (fun _ _ => rfl)) (pe_fld (pv 0) rfl) (nomark _)) (pw_or1 (pt_cmpR op_ne (pe_fld (pv 0) rfl) (pe_glob rfl T.k_READING T.r_READING) (nomark _)))))) (pss_one ps_retN) pss_nil)
      (pss_cons (ps_asg (pv 1) (pg_tup rfl (pgs_cons (pg_name (i := 2) sc_Reader_receive.nd rfl (Or.inl rfl)) (pgs_cons (pg_name (i := 2) sc_Reader_receive.nd rfl (Or.inl rfl)) (pgs_cons (pg_name (i := 3) sc_Reader_receive.nd rfl (Or.inl rfl)) (pgs_cons (pg_name (i := 4) sc_Reader_receive.nd rfl (Or.inl rfl)) pgs_nil))))))
      (pss_one (ps_if (pt_cmpR op_eq (pv 3) (pe_meth0 (pv 0) T.k_Reader.cl T.m_Reader__next_key G_Reader__next_key (hr.mono (by decide)) T.b_Reader__next_key .nil passL) (nomark _)) (pss_cons (ps_expr (pe_bm PySem.F.plainAttrs_list PySem.F.slot_list_append PySem.F.type_list_append mt_append (pe_fld (pv 0) rfl) (pa_cons (pe_tup (pa_cons (pv 3) (pa_cons (pv 4) pa_nil))) pa_nil)))
      (pss_one (ps_if (pt_cmpR op_eq (pe_callB call_len (by rfl) T.z_len (by decide +kernel) (pa_cons (pe_fld (pv 0) rfl) pa_nil)) (pe_callB call_len (by rfl) T.z_len (by decide +kernel) (pa_cons (pe_fld (pv 0) rfl) pa_nil)) (nomark _)) (pss_one (ps_fld (pv 0) (pe_glob rfl T.k_WAITING T.r_WAITING) rfl)) pss_nil))) pss_nil)))), ?_⟩
  obtain ⟨dx, ha⟩ := hR.ob
  have no : hit S n ks L = false → Q .non H := fun e => h1 as H (fun b u h _ _ => h) (by rw [show rrc S n ks L = S from if_neg (by rw [e]; decide)]; exact hR)
  cases hL with
  | other n2 k v h =>
    refine ⟨_, rfl, l, _, _, _, rfl, rfl, SqT.of h, atI_nat (j := 0) rfl, rfl, _, rfl, ?_⟩
    exact ifT (by decide +kernel) (no rfl)
  | seen n2 k v h =>
    refine ⟨_, rfl, l, _, _, _, rfl, rfl, SqT.of h, atI_nat (j := 0) rfl, rfl, _, rfl, ?_⟩
    refine ifF (by decide +kernel) ?_
    refine ⟨_, rfl, l, _, _, .int n2, rfl, rfl, SqT.of h, atI_nat (j := 1) rfl, _, rfl, a, _, _, _, _, rfl, ha, T.k_Reader.cl, T.n_Reader__number, rl 0 (by decide +kernel) (by decide) rfl, rfl, _, rfl, ?_⟩
    by_cases c1 : n2 = n
    rotate_left
    · exact ifT (by simpa using c1) (no (by unfold hit; simp [c1]))
    refine ifF (by simpa using c1) ?_
    refine ⟨_, rfl, a, _, _, _, _, rfl, ha, T.k_Reader.cl, T.n_Reader__phase, rl 3 (by decide +kernel) (by decide) rfl, rfl, _, rfl, ?_⟩
    rw [dstr]
    refine iteN (fun c2 => no (by unfold hit; simp [c2])) (fun c2 => ?_)
    have c2 : S.ph = "reading" := c2
    have hlt := hI.nx (.inr c2)
    have hk : ks[S.got.length]? = some (ks.getD S.got.length Str.empty) := by
      rw [List.getD_eq_getElem?_getD, List.getElem?_eq_getElem hlt]
      rfl
    refine ⟨_, rfl, l, _, rfl, SqT.of h, rfl, _, _, rfl, _, _, rfl, _, _, rfl, _, _, rfl, rfl, ?_⟩
    refine ⟨_, rfl, _, rfl, a, _, _, rfl, ha, rno (by decide +kernel), a, wA, c, g, n, ks, cs, as, S, _, rfl, hR, hk, rfl, _, rfl, ?_⟩
    rw [dstr]
    refine iteD (fun c3 => ?_) (fun c3 => no (by unfold hit; rw [show decide (k = ks.getD S.got.length Str.empty) = false from decide_eq_false c3, Bool.and_false]))
    have hh : hit S n ks ⟨true, n2, k, v⟩ = true := by unfold hit; simp [c1, c2, c3]
    refine ⟨_, rfl, a, _, _, _, _, rfl, ha, T.k_Reader.cl, T.n_Reader__got, rl 5 (by decide +kernel) (by decide) rfl, .inl ⟨rfl, _, SqL.of hR.go.at_⟩, _, rfl, _, rfl, (by show 2 ≤ sizeLine; decide), fun y ny => ?_⟩
    have sy := same_new (o := .tup [.str k, oV v]) ny
    refine ⟨g, _, _, rfl, rfl, sy _ _ hR.go.at_, szl (by rw [List.length_map, hR.go.len]; omega), ?_⟩
    have hG := hR.go.push sy (k := k) (v := v) upd_same
    have gne : ∀ {b : Addr} {u : HO}, H b = some u → (∀ xs, u ≠ .lst xs) → b ≠ g := fun hb hu q => by
      rw [q, hR.go.at_] at hb
      exact hu _ (Option.some.inj hb).symm
    have k1 : Kp H (upd (upd H y (.tup [.str k, oV v])) g (.lst (as.map V.ref ++ [.ref y]))) g := (Kp.of sy g).upd
    have hR1 : RdAt T (upd (upd H y (.tup [.str k, oV v])) g (.lst (as.map V.ref ++ [.ref y]))) a wA c g n ks cs (as ++ [y]) ⟨S.ph, S.tm, S.got ++ [(k, v)]⟩ := ⟨⟨dx, k1 _ _ ha (gne ha fun _ q => by cases q)⟩, k1 _ _ hR.wa (gne hR.wa fun _ q => by cases q), k1 _ _ hR.cu (gne hR.cu fun _ q => by cases q), hG⟩
    show tSeq _ _ _ _ (upd (upd H y (.tup [.str k, oV v])) g (.lst (as.map V.ref ++ [.ref y])))
    generalize upd (upd H y (.tup [.str k, oV v])) g (.lst (as.map V.ref ++ [.ref y])) = H1 at k1 hR1
    obtain ⟨d1, ha1⟩ := hR1.ob
    refine ⟨_, rfl, a, _, _, _, _, rfl, ha1, T.k_Reader.cl, T.n_Reader__got, rl 5 (by decide +kernel) (by decide) rfl, _, _, rfl, .inl ⟨_, SqL.of hR1.go.at_, rfl⟩, _, rfl, a, _, _, _, _, rfl, ha1, T.k_Reader.cl, T.n_Reader__wanted, rl 1 (by decide +kernel) (by decide) rfl, _, _, rfl, .inr ⟨_, SqT.of hR1.wa, rfl⟩, rfl, _, rfl, ?_⟩
    have el : (decide (V.int ((((as ++ [y]).map V.ref).length : Nat) : Int) = V.int (((ks.map V.str).length : Nat) : Int))) = decide (S.got.length + 1 = ks.length) := by
      rw [List.length_map, List.length_map, List.length_append, hR.go.len]
      show decide (V.int ((S.got.length + 1 : Nat) : Int) = V.int ((ks.length : Nat) : Int)) = _
      by_cases q : S.got.length + 1 = ks.length
      · rw [decide_eq_true q, decide_eq_true (by rw [q])]
      · rw [decide_eq_false q, decide_eq_false fun z => q (by have := V.int.inj z; omega)]
    rw [el]
    have er : rrc S n ks ⟨true, n2, k, v⟩ = ⟨if S.got.length + 1 = ks.length then "waiting" else S.ph, S.tm, S.got ++ [(k, v)]⟩ := if_pos hh
    refine iteD (fun c4 => ?_) (fun c4 => ?_)
    · refine ⟨_, rfl, a, _, _, _, rfl, ha1, T.k_Reader.cl, T.n_Reader__phase, (by rw [List.length_zip]; exact Nat.lt_of_le_of_lt (Nat.min_le_left _ _) (by decide)), ?_⟩
      rw [zput 3 (by decide +kernel) (by decide) rfl]
      have ga : g ≠ a := fun q => by
        have := hR1.go.at_
        rw [q, ha1] at this
        cases this
      have nta : ∀ xs, H1 a ≠ some (.tup xs) := fun xs q => by
        rw [ha1] at q
        cases q
      have k2 : Kp H1 (upd H1 a (.ins T.a_Reader d1 (RN.zip ((rv n wA c g ⟨S.ph, S.tm, S.got ++ [(k, v)]⟩).set 3 (.str "waiting"))))) a := (Kp.of (Same.refl H1) a).upd
      refine h1 (as ++ [y]) _ (fun b u hb n1 n2 => k2 _ _ (k1 _ _ hb n2) n1) ?_
      rw [er, if_pos c4]
      exact ⟨⟨d1, upd_same⟩, k2 _ _ hR1.wa fun q => nta _ (q ▸ hR1.wa), k2 _ _ hR1.cu fun q => nta _ (q ▸ hR1.cu), hR1.go.kp k2 ga nta⟩
    · refine h1 (as ++ [y]) _ (fun b u hb n1 n2 => k1 _ _ hb n2) ?_
      rw [er, if_neg c4]
      exact hR1

--PART /work/steering/wip/parts/dok.lean
/-! ### data that can be compared with itself -/
structure Dok (n : Nat) (d : PyData) : Prop where
  lay : PyData.canLay0 d = true
  dep : PyData.depth d ≤ n
  eq : PyData.eqv d d = true
theorem Dok.all {n : Nat} : ∀ xs : List PyData, (∀ x ∈ xs, Dok n x) → PyData.canLayAll0 xs = true ∧ PyData.depthAll xs ≤ n ∧ PyData.eqvAll xs xs = true
  | [], _ => ⟨rfl, by rw [PyData.depthAll]; omega, rfl⟩
  | x :: r, h => by
    obtain ⟨h1, h2, h3⟩ := Dok.all r fun y hy => h y (List.mem_cons_of_mem _ hy)
    have hx := h x List.mem_cons_self
    refine ⟨?_, ?_, ?_⟩
    · show (PyData.canLay0 x && PyData.canLayAll0 r) = true
      rw [h1, hx.lay]
      rfl
    · have := hx.dep
      rw [PyData.depthAll]
      omega
    · show (PyData.eqv x x && PyData.eqvAll r r) = true
      rw [h3, hx.eq]
      rfl
theorem Dok.none (n : Nat) : Dok n .none := ⟨rfl, by rw [PyData.depth]; omega, rfl⟩
theorem Dok.int (n : Nat) (i : Int) : Dok n (.int i) := ⟨rfl, by rw [PyData.depth]; omega, by show (i == i) = true; simp⟩
theorem Dok.str (n : Nat) {t : Str} (h : alT t) : Dok n (.str t) := ⟨by unfold PyData.canLay0; exact h.strOk, by rw [PyData.depth]; omega, by show (t == t) = true; simp⟩
theorem Dok.list {n : Nat} {xs : List PyData} (h : ∀ x ∈ xs, Dok n x) : Dok (n + 1) (.list xs) := by
  obtain ⟨h1, h2, h3⟩ := Dok.all xs h
  exact ⟨by unfold PyData.canLay0; exact h1, by unfold PyData.depth; omega, h3⟩
theorem Dok.tup {n : Nat} {xs : List PyData} (h : ∀ x ∈ xs, Dok n x) : Dok (n + 1) (.tuple xs) := by
  obtain ⟨h1, h2, h3⟩ := Dok.all xs h
  exact ⟨by unfold PyData.canLay0; exact h1, by unfold PyData.depth; omega, h3⟩
theorem Dok.shaped {n : Nat} {d : PyData} (h : Dok n d) (hn : n ≤ 64) : SeqAt.shaped d = true := by
  unfold SeqAt.shaped
  have := h.dep
  rw [h.lay, decide_eq_true (show d.depth ≤ 64 by omega)]
  rfl
theorem dpAll_of {α : Type} {K : PySem.W.Frag} {H : Hp} (d : α → PyData) : ∀ (as : List Addr) (bs : List α), as.length = bs.length → (∀ (j : Nat) (a : Addr), as[j]? = some a → ∃ b, bs[j]? = some b ∧ Dp K H (.ref a) (d b)) → DpAll K H (as.map V.ref) (bs.map d)
  | [], [], _, _ => .nil
  | [], _ :: _, h, _ => by simp at h
  | _ :: _, [], h, _ => by simp at h
  | a :: as, b :: bs, h, e => by
    obtain ⟨b', h1, h2⟩ := e 0 a rfl
    have : b = b' := Option.some.inj h1
    subst this
    exact .cons h2 (dpAll_of d as bs (Nat.succ.inj h) fun j x hj => e (j + 1) x hj)

--PART /work/steering/wip/parts/k61.lean
def MN : List Str := ["number", "keys", "fences", "phase", "time", "got"]
theorem mnd : MN.Nodup := by decide +kernel
def mv (n : Int) (ko fo go : Addr) (S : RS) : List V := [.int n, .ref ko, .ref fo, .str S.ph, oV S.tm, .ref go]
structure MAt (H : Hp) (d ko fo go : Addr) (n : Int) (ks cs : List Str) (as : List Addr) (S : RS) : Prop where
  ob : H d = some (.dK (zD MN (mv n ko fo go S)))
  ke : H ko = some (.lst (ks.map V.str))
  fe : H fo = some (.lst (cs.map V.str))
  go : GL H go as S.got
theorem MAt.same {H H' : Hp} {d ko fo go : Addr} {n : Int} {ks cs : List Str} {as : List Addr} {S : RS} (h : MAt H d ko fo go n ks cs as S) (s : Same H H') : MAt H' d ko fo go n ks cs as S := ⟨s _ _ h.ob, s _ _ h.ke, s _ _ h.fe, h.go.same s⟩
theorem MAt.get {H : Hp} {d ko fo go : Addr} {n : Int} {ks cs : List Str} {as : List Addr} {S : RS} (h : MAt H d ko fo go n ks cs as S) {k : Str} {v : V} (i : Nat) (h1 : MN.idxOf k = i) (h2 : i < 6) (hv : (mv n ko fo go S)[i]? = some v) : DGet H d (.str k) (some v) := zdget h.ob i h1 h2 rfl hv
def sp__law_push (T : Env K mg) : Sp := fun vs H Q E => ∃ (d ko fo go b : Addr) (n : Int) (ks cs : List Str) (as : List Addr) (S : RS) (lo hi : Int), vs = [.ref d, .ref b] ∧ MAt H d ko fo go n ks cs as S ∧ SpanAt T H b lo hi ∧ Ri ks S ∧ cs.length ≤ 400 ∧
  ∀ p H', Kp H H' d → H p = none → MAt H' d ko fo go n ks cs as (rps S lo hi) → PAt H' p (rpr S n ks cs hi) → Q (.ref p) H'
theorem ok__law_push (T : Env K mg) : FnOk P w K mg base (L2.CX P w) 2 T.a__law_push T.d__law_push ["m", "span"] (sp__law_push T) := by
  refine T.F__law_push.okX sc__law_push (fun vs H Q E h => by obtain ⟨_, _, _, _, _, _, _, _, _, _, _, _, rfl, _⟩ := h; rfl) (fun cdv A outer s H vs Q E hr h => ?_)
  obtain ⟨d, ko, fo, go, b, n, ks, cs, as, S, lo, hi, rfl, hR, hS, hI, hcl, h1⟩ := h
  refine ⟨_, (pss_cons (ps_if (pt_cmpR op_eq (pe_dget (hu_of hr) (pv 0) pe_str (fun _ _ => rfl)) pe_str (nomark _)) (pss_cons (ps_dput (hu_of hr) (pv 0) pe_str pe_str rfl)
      (pss_one (ps_dput (hu_of hr) (pv 0) pe_str (pe_callB (call_max2 rfl) (by rfl) T.z_max (by decide +kernel) (pa_cons pe_int (pa_cons (pe_fld (pv 1) rfl) pa_nil))) rfl))) pss_nil)
      (pss_cons (ps_if (pt_cmpR op_eq (pe_dget (hu_of hr) (pv 0) pe_str (fun _ _ => rfl)) pe_str (nomark _)) (pss_cons (ps_set (i := 2) sc__law_push.nd rfl (Or.inr rfl) (pe_ix ix_list (pe_dget (hu_of hr) (pv 0) pe_str (fun _ _ => rfl)) (pe_callB call_len (by rfl) T.z_len (by decide +kernel) (pa_cons (pe_dget (hu_of hr) (pv 0) pe_str (fun _ _ => rfl)) pa_nil)) (fun _ _ => rfl)))
      (pss_one (ps_ret (pe_lst (pa_cons (pe_tup (pa_cons (pe_callB call_len (by rfl) T.z_len (by decide +kernel) (pa_cons (pe_lc (own := [("fence", 3)]) (by rfl) sc__law_push.nd (pi_list (pe_dget (hu_of hr) (pv 0) pe_str (fun _ _ => rfl))) (blkOk_by (own := [("fence", 3)]) (N := ["m", "span", "key", "fence"]) (sc := defScope s__law_push) (by decide +kernel)) (fun _ _ _ _ _ => (pg_name (i := 3) sc__law_push.nd rfl (Or.inl rfl))) (fun _ _ _ _ _ => (pts_one (pt_cmpR op_le_str (pv 3) (pv 2) (nomark _)))) (fun _ _ _ _ _ => (pv 3))) pa_nil)) (pa_cons (pe_tup (pa_cons pe_str (pa_cons (pe_dget (hu_of hr) (pv 0) pe_str (fun _ _ => rfl)) (pa_cons (pv 2) (pa_cons (pe_dget (hu_of hr) (pv 0) pe_str (fun _ _ => rfl)) pa_nil))))) pa_nil))) pa_nil))))) pss_nil)
      (pss_cons (ps_if (PW.pt (pw_and (pt_cmpR op_eq (pe_dget (hu_of hr) (pv 0) pe_str (fun _ _ => rfl)) pe_str (nomark _)) (pw_and1 (pt_cmpR op_lt (pe_dget (hu_of hr) (pv 0) pe_str (fun _ _ => rfl)) (pe_fld (pv 1) rfl) (nomark _))))) (pss_one (ps_dput (hu_of hr) (pv 0) pe_str pe_str rfl)) pss_nil)
      (pss_one (ps_ret (pe_lst pa_nil)))))), ?_⟩
  obtain ⟨db, hb⟩ := id hS
  have ne : ∀ {H' : Hp} {x : Addr} {u : HO} {kvs}, H' d = some (.dK kvs) → H' x = some u → (∀ kvs, u ≠ .dK kvs) → x ≠ d := fun hd hx hu q => by
    rw [q, hd] at hx
    exact hu _ (Option.some.inj hx).symm
  have mset : ∀ {H' : Hp} {kvs} {X : RS} {S' : RS}, H' d = some (.dK kvs) → MAt H' d ko fo go n ks cs as X ∨ MAt H' d ko fo go n ks cs as X → X.got = S'.got → ∀ U, Kp H' U d → U d = some (.dK (zD MN (mv n ko fo go S'))) → MAt U d ko fo go n ks cs as S' := fun hd h0 eg U k hU => by
    have h0 : MAt _ d ko fo go n ks cs as _ := h0.elim id id
    refine ⟨hU, k _ _ h0.ke (ne hd h0.ke fun _ q => by cases q), k _ _ h0.fe (ne hd h0.fe fun _ q => by cases q), ?_⟩
    rw [← eg]
    exact h0.go.kp k (ne hd h0.go.at_ fun _ q => by cases q) fun xs q => by
      rw [hd] at q
      cases q
  refine ⟨_, rfl, d, _, rfl, hR.get 3 (by decide +kernel) (by decide) rfl, rfl, _, rfl, ?_⟩
  rw [dstr]
  apply via2p (fun σ HX => σ = [some (.ref d), some (.ref b), none, none] ∧ Kp H HX d ∧ MAt HX d ko fo go n ks cs as (rbeg S hi) ∧ SpanAt T HX b lo hi)
  · intro fin
    refine iteD (fun c1 => ?_) (fun c1 => ?_)
    · have eb : rbeg S hi = ⟨"reading", some (look hi), S.got⟩ := if_pos c1
      refine ⟨_, rfl, d, _, rfl, zdput hR.ob 3 mnd (by decide +kernel) (by decide) rfl (by decide), ?_⟩
      have hb1 : upd H d (.dK (zD MN ((mv n ko fo go S).set 3 (.str "reading")))) b = _ := (upd_ne (ne hR.ob hb fun _ q => by cases q)).trans hb
      refine ⟨_, rfl, b, _, _, _, _, rfl, hb1, T.k_Span.cl, T.n_Span_high, spf_high _ _, _, _, rfl, _, rfl, d, _, rfl, zdput (upd_same) 4 mnd (by decide +kernel) (by decide) rfl (by decide), ?_⟩
      have k : Kp H (upd (upd H d (.dK (zD MN ((mv n ko fo go S).set 3 (.str "reading"))))) d (.dK (zD MN (((mv n ko fo go S).set 3 (.str "reading")).set 4 (.int (look hi)))))) d := (Kp.of (Same.refl H) d).upd.upd
      refine fin _ _ ⟨rfl, k, ?_, ?_⟩
      · rw [eb]
        exact mset (S' := ⟨"reading", some (look hi), S.got⟩) hR.ob (.inl hR) rfl _ k upd_same
      · exact ⟨db, k _ _ hb (ne hR.ob hb fun _ q => by cases q)⟩
    · have eb : rbeg S hi = S := if_neg c1
      exact fin _ _ ⟨rfl, Kp.of (Same.refl _) _, by rw [eb]; exact hR, hS⟩
  rintro σ H1 ⟨rfl, k1, hR1, hS1⟩
  have eg : (rbeg S hi).got = S.got := by
    unfold rbeg
    split <;> rfl
  obtain ⟨d1, hb1⟩ := id hS1
  have nf : ∀ {x : Addr}, H1 x = none → H x = none := fun {x} hx => by
    cases q : H x with
    | none => rfl
    | some u =>
      by_cases e : x = d
      · rw [e, hR1.ob] at hx; cases hx
      · rw [k1 x u q e] at hx; cases hx
  refine ⟨_, rfl, d, _, rfl, hR1.get 3 (by decide +kernel) (by decide) rfl, rfl, _, rfl, ?_⟩
  rw [dstr]
  refine iteD (fun c2 => ?_) (fun c2 => ?_)
  · have hlt : S.got.length < ks.length := hI.nx (by
      by_cases q : S.ph = "new"
      · exact .inl q
      · refine .inr ?_
        have : rbeg S hi = S := if_neg q
        rw [this] at c2
        exact c2)
    have hk : ks[(rbeg S hi).got.length]? = some (ks.getD S.got.length Str.empty) := by
      rw [eg, List.getD_eq_getElem?_getD, List.getElem?_eq_getElem hlt]
      rfl
    refine ⟨_, rfl, d, _, rfl, hR1.get 1 (by decide +kernel) (by decide) rfl, _, rfl, d, _, rfl, hR1.get 5 (by decide +kernel) (by decide) rfl, _, _, rfl, .inl ⟨_, SqL.of hR1.go.at_, rfl⟩, ko, _, _, .str (ks.getD S.got.length Str.empty), rfl, rfl, SqL.of hR1.ke, at_of (j := (rbeg S hi).got.length) (by rw [List.length_map, hR1.go.len]) (by rw [List.getElem?_map, hk]; rfl), ?_⟩
    obtain ⟨key, hkey⟩ : ∃ key, ks.getD S.got.length Str.empty = key := ⟨_, rfl⟩
    rw [hkey]
    rw [hkey] at hk
    refine ⟨_, rfl, d, _, rfl, hR1.get 2 (by decide +kernel) (by decide) rfl, fo, rfl, ⟨_, SqL.of hR1.fe⟩, fun D hD => lc_list (K := K) (a := fo) (xs := cs.map V.str) (fun i H' => Same H1 H' ∧ H' D = some (.lst (((cs.take i).filter fun t => !decide (ltS key t)).map V.str))) ⟨same_new hD, upd_same⟩ (fun i H' _ h => SqL.of (h.1 _ _ hR1.fe)) ?_ ?_⟩
    · rintro i x H' hx ⟨sA, hp⟩
      obtain ⟨t, ht, rfl⟩ := mem_str hx
      have hi : i < cs.length := (List.getElem?_eq_some_iff.mp ht).1
      have hf := List.length_filter_le (fun t => !decide (ltS key t)) (cs.take i)
      rw [List.length_take] at hf
      refine ⟨rfl, _, rfl, _, rfl, _, _, rfl, rfl, ?_⟩
      by_cases c : ltS key t
      · refine ⟨_, rfl, ifF (by rw [decide_eq_true c]; rfl) ⟨sA, ?_⟩⟩
        rw [take_succ ht, List.filter_append, show [t].filter (fun t => !decide (ltS key t)) = [] by rw [List.filter_cons, decide_eq_true c]; rfl, List.append_nil]
        exact hp
      · refine ⟨_, rfl, ifT (by rw [decide_eq_false c]; rfl) ⟨_, rfl, _, hp, szl (by rw [List.length_map]; omega), same_mut sA hD, ?_⟩⟩
        rw [take_succ ht, List.filter_append, show [t].filter (fun t => !decide (ltS key t)) = [t] by rw [List.filter_cons, decide_eq_false c]; rfl, upd_same, List.map_append]
        rfl
    · rintro H2 ⟨s2, hp⟩
      rw [List.length_map, List.take_length] at hp
      refine ⟨_, _, rfl, .inl ⟨_, SqL.of hp, rfl⟩, ?_⟩
      rw [List.length_map]
      have hR2 := hR1.same s2
      refine ⟨_, rfl, d, _, rfl, hR2.get 0 (by decide +kernel) (by decide) rfl, _, rfl, _, rfl, d, _, rfl, hR2.get 4 (by decide +kernel) (by decide) rfl, (by show 4 ≤ sizeLine; decide), fun y ny => ⟨(by show 2 ≤ sizeLine; decide), fun x nx => ⟨(by show 1 ≤ sizeLine; decide), fun p np => ?_⟩⟩⟩
      have sy := same_new (o := .tup [.str "look", .int n, .str key, oV (rbeg S hi).tm]) ny
      have sx := same_new (o := .tup [.int (grp cs key), .ref y]) nx
      have sp := same_new (o := .lst [.ref x]) np
      have s3 := ((s2.trans sy).trans sx).trans sp
      refine h1 p _ (k1.same s3) (nf (((s2.trans sy).trans sx).free np)) ?_ ?_
      · rw [show rps S lo hi = rbeg S hi from if_pos c2]
        exact hR1.same s3
      · rw [show rpr S n ks cs hi = some (grp cs key, n, key, (rbeg S hi).tm) from by rw [← hkey]; exact if_pos c2]
        exact .yes p x y _ _ _ _ upd_same (sp _ _ upd_same) (sp _ _ (sx _ _ upd_same))
  · have er : rpr S n ks cs hi = none := if_neg c2
    have es : rps S lo hi = rend (rbeg S hi) lo := if_neg c2
    rw [er, es] at h1
    have fin : ∀ HX, Kp H HX d → MAt HX d ko fo go n ks cs as (rend (rbeg S hi) lo) → (∀ x, HX x = none → H x = none) → ∀ p, HX p = none → Q (.ref p) (upd HX p (.lst [])) := fun HX kX hX nX p np => h1 p _ (kX.same (same_new np)) (nX p np) (hX.same (same_new np)) (.no p upd_same)
    refine ⟨_, rfl, d, _, rfl, hR1.get 3 (by decide +kernel) (by decide) rfl, rfl, _, rfl, ?_⟩
    rw [dstr]
    have htm : ∃ t, (rbeg S hi).tm = some t := by
      by_cases q : S.ph = "new"
      · exact ⟨look hi, by rw [show rbeg S hi = _ from if_pos q]⟩
      · rw [show rbeg S hi = S from if_neg q]
        exact hI.tm.resolve_left q
    obtain ⟨t, ht⟩ := htm
    refine iteD (fun c3 => ?_) (fun c3 => ?_)
    · have g4 : DGet H1 d (.str "time") (some (.int t)) := hR1.get 4 (by decide +kernel) (by decide) (by show some (oV (rbeg S hi).tm) = _; rw [ht]; rfl)
      refine ⟨_, rfl, d, _, rfl, g4, _, rfl, b, _, _, _, _, rfl, hb1, T.k_Span.cl, T.n_Span_low, spf_low _ _, _, _, rfl, rfl, _, rfl, iteD (fun c4 => ?_) (fun c4 => ?_)⟩
      · refine ⟨_, rfl, d, _, rfl, zdput hR1.ob 3 mnd (by decide +kernel) (by decide) rfl (by decide), ?_⟩
        have k2 : Kp H1 (upd H1 d (.dK (zD MN ((mv n ko fo go (rbeg S hi)).set 3 (.str "ended"))))) d := (Kp.of (Same.refl H1) d).upd
        refine ⟨Nat.zero_le _, fun p np => fin _ (k1.trans k2) ?_ (fun x hx => nf ?_) p np⟩
        · rw [show rend (rbeg S hi) lo = ⟨"ended", (rbeg S hi).tm, (rbeg S hi).got⟩ from if_pos ⟨c3, by rw [ht]; exact c4⟩]
          exact mset (S' := ⟨"ended", (rbeg S hi).tm, (rbeg S hi).got⟩) hR1.ob (.inl hR1) rfl _ k2 upd_same
        · by_cases e : x = d
          · rw [e, upd_same] at hx; cases hx
          · rw [upd_ne e] at hx; exact hx
      · refine ⟨Nat.zero_le _, fun p np => fin _ k1 ?_ (fun x hx => nf hx) p np⟩
        rw [show rend (rbeg S hi) lo = rbeg S hi from if_neg fun q => c4 (by have := q.2; rw [ht] at this; exact this)]
        exact hR1
    · refine ⟨Nat.zero_le _, fun p np => fin _ k1 ?_ (fun x hx => nf hx) p np⟩
      rw [show rend (rbeg S hi) lo = rbeg S hi from if_neg fun q => c3 q.1]
      exact hR1
def sp__law_letter (T : Env K mg) : Sp := fun vs H Q E => ∃ (d ko fo go pk : Addr) (n c : Int) (ks cs ps : List Str) (as : List Addr) (S : RS), vs = [.int c, .ref d, .ref pk] ∧ MAt H d ko fo go n ks cs as S ∧ Ri ks S ∧ H pk = some (.lst (ps.map V.str)) ∧ ps.length = 4 ∧ (∀ k ∈ ps, alT k) ∧ (∀ k ∈ ks, alT k) ∧
  ∀ l L H', Same H H' → H l = none → LAt H' l L → alT L.k → Q (.ref l) H'
theorem ok__law_letter (T : Env K mg) : FnOk P w K mg base (L2.CX P w) 1 T.a__law_letter T.d__law_letter ["cell", "m", "keys"] (sp__law_letter T) := by
  refine T.F__law_letter.okX sc__law_letter (fun vs H Q E h => by obtain ⟨_, _, _, _, _, _, _, _, _, _, _, _, rfl, _⟩ := h; rfl) (fun cdv A outer s H vs Q E hr h => ?_)
  obtain ⟨d, ko, fo, go, pk, n, c, ks, cs, ps, as, S, rfl, hR, hI, hP, hpl, hpa, hka, h1⟩ := h
  refine ⟨_, (pss_cons (ps_set (i := 3) sc__law_letter.nd rfl (Or.inl rfl) (pe_ix ix_list (pv 2) (pe_op op_mod (pe_op op_fdiv (pv 0) pe_int) pe_int) (fun _ _ => rfl)))
      (pss_cons (ps_if (PW.pt (pw_and (pt_cmpR op_eq (pe_dget (hu_of hr) (pv 1) pe_str (fun _ _ => rfl)) pe_str (nomark _)) (pw_and1 (pt_cmpR op_lt (pe_op op_mod (pe_callTy call_int1 (by rfl) T.z_int (by decide +kernel) (pa_cons (pv 0) pa_nil)) pe_int) pe_int (nomark _))))) (pss_one (ps_set (i := 3) sc__law_letter.nd rfl (Or.inl rfl) (pe_ix ix_list (pe_dget (hu_of hr) (pv 1) pe_str (fun _ _ => rfl)) (pe_callB call_len (by rfl) T.z_len (by decide +kernel) (pa_cons (pe_dget (hu_of hr) (pv 1) pe_str (fun _ _ => rfl)) pa_nil)) (fun _ _ => rfl)))) pss_nil)
      (pss_cons (ps_if (pt_cmpR op_eq (pe_op op_mod (pe_callTy call_int1 (by rfl) T.z_int (by decide +kernel) (pa_cons (pv 0) pa_nil)) pe_int) pe_int (nomark _)) (pss_one (ps_ret (pe_tup (pa_cons pe_str (pa_cons (pe_dget (hu_of hr) (pv 1) pe_str (fun _ _ => rfl)) (pa_cons (pv 3) (pa_cons pe_int (pa_cons pe_int pa_nil)))))))) pss_nil)
      (pss_one (ps_ret (pe_tup (pa_cons pe_str (pa_cons (pe_op op_add (pe_dget (hu_of hr) (pv 1) pe_str (fun _ _ => rfl)) (pe_callTy call_int1 (by rfl) T.z_int (by decide +kernel) (pa_cons (pe_cmpR op_eq (pe_op op_mod (pe_callTy call_int1 (by rfl) T.z_int (by decide +kernel) (pa_cons (pv 0) pa_nil)) pe_int) pe_int (nomark _)) pa_nil))) (pa_cons (pv 3) (pa_cons (pe_ix ix_list (pe_lst (pa_cons pe_non (pa_cons (pe_op op_sub (pe_op op_fdiv (pv 0) pe_int) pe_int) pa_nil))) (pe_op op_mod (pe_op op_fdiv (pv 0) pe_int) pe_int) (fun _ _ => rfl)) pa_nil)))))))))), ?_⟩
  obtain ⟨k0, hk0, hm0⟩ := at_strs (ks := ps) (z := c / 8 % 4) (by omega) (by omega)
  refine ⟨_, rfl, _, rfl, _, _, rfl, rfl, ⟨by decide, by decide⟩, _, _, rfl, rfl, by show (0 : Int) < _; decide, pk, _, _, .str k0, rfl, rfl, SqL.of hP, hk0, ?_⟩
  apply via2p (fun σ HX => ∃ key : Str, σ = [some (.int c), some (.ref d), some (.ref pk), some (.str key)] ∧ HX = H ∧ alT key)
  · intro fin
    refine ⟨_, rfl, d, _, rfl, hR.get 3 (by decide +kernel) (by decide) rfl, rfl, _, rfl, ?_⟩
    rw [dstr]
    refine iteD (fun c1 => ?_) (fun c1 => ifF rfl (fin _ _ ⟨k0, rfl, rfl, hpa _ hm0⟩))
    have hlt := hI.nx (.inr c1)
    have hk : ks[S.got.length]? = some (ks.getD S.got.length Str.empty) := by
      rw [List.getD_eq_getElem?_getD, List.getElem?_eq_getElem hlt]
      rfl
    refine ⟨_, rfl, .inl ⟨_, rfl, _, _, rfl, rfl, by show (0 : Int) < _; decide, _, _, rfl, rfl, _, rfl, iteD (fun c2 => ?_) (fun c2 => fin _ _ ⟨k0, rfl, rfl, hpa _ hm0⟩)⟩⟩
    refine ⟨_, rfl, d, _, rfl, hR.get 1 (by decide +kernel) (by decide) rfl, _, rfl, d, _, rfl, hR.get 5 (by decide +kernel) (by decide) rfl, _, _, rfl, .inl ⟨_, SqL.of hR.go.at_, rfl⟩, ko, _, _, .str (ks.getD S.got.length Str.empty), rfl, rfl, SqL.of hR.ke, at_of (j := S.got.length) (by rw [List.length_map, hR.go.len]) (by rw [List.getElem?_map, hk]; rfl), ?_⟩
    exact fin _ _ ⟨_, rfl, rfl, hka _ (List.mem_of_getElem? hk)⟩
  rintro σ HX ⟨key, rfl, rfl, hal⟩
  refine ⟨_, rfl, .inl ⟨_, rfl, _, _, rfl, rfl, by show (0 : Int) < _; decide, rfl, _, rfl, ?_⟩⟩
  refine ite2 (fun _ => ?_) (fun _ => ?_)
  · refine ⟨_, rfl, d, _, rfl, hR.get 0 (by decide +kernel) (by decide) rfl, _, rfl, (by show 5 ≤ sizeLine; decide), fun l nl => ?_⟩
    exact h1 l ⟨false, n, key, none⟩ _ (same_new nl) nl (.other l n key none upd_same) hal
  · refine ⟨_, rfl, d, _, rfl, hR.get 0 (by decide +kernel) (by decide) rfl, _, rfl, ?_⟩
    refine .inl ⟨_, rfl, _, _, rfl, rfl, by show (0 : Int) < _; decide, rfl, .inr ⟨_, rfl, _, _, rfl, rfl, ?_⟩⟩
    refine ⟨_, rfl, _, rfl, _, _, rfl, rfl, ⟨by decide, by decide⟩, _, _, rfl, rfl, (by show 2 ≤ sizeLine; decide), fun q nq => ?_⟩
    have sq := same_new (o := .lst [V.non, V.int (c / 32 - 40)]) nq
    obtain ⟨v, hv⟩ : ∃ v : Option Int, atI [V.non, V.int (c / 32 - 40)] (c / 32 % 2) = some (oV v) := by
      obtain ⟨j, hj, e⟩ : ∃ j : Nat, j < 2 ∧ c / 32 % 2 = (j : Int) := ⟨(c / 32 % 2).toNat, by omega, by omega⟩
      match j, hj with
      | 0, _ => exact ⟨none, at_of e rfl⟩
      | 1, _ => exact ⟨some _, at_of e rfl⟩
    refine ⟨_, rfl, _, _, rfl, rfl, ⟨by decide, by decide⟩, _, _, rfl, rfl, by show (0 : Int) < _; decide, q, _, _, oV v, rfl, rfl, SqL.of upd_same, hv, (by show 4 ≤ sizeLine; decide), fun l nl => ?_⟩
    exact h1 l ⟨true, _, key, v⟩ _ (sq.trans (same_new nl)) (sq.free nl) (.seen l _ key v upd_same) hal
/-! the law -/
def dO : Option Int → PyData
  | none => .none
  | some i => .int i
theorem dp_oV {K : PySem.W.Frag} {H : Hp} (v : Option Int) : Dp K H (oV v) (dO v) := by
  cases v with
  | none => exact .non
  | some i => exact .int i
theorem dok_o (n : Nat) (v : Option Int) : Dok n (dO v) := by
  cases v with
  | none => exact .none n
  | some i => exact .int n i
def dG (e : Str × Option Int) : PyData := .tuple [.str e.1, dO e.2]
def dGs (ws : Mp) : PyData := .list (ws.map dG)
theorem GL.dp {K : PySem.W.Frag} {H : Hp} {p : Addr} {as : List Addr} {ws : Mp} (h : GL H p as ws) : Dp K H (.ref p) (dGs ws) :=
  .lst (SqL.of h.at_) (dpAll_of dG as ws h.len fun j x hj => by
    obtain ⟨e, h1, h2⟩ := h.each j x hj
    exact ⟨e, h1, .tup (SqT.of h2) (.cons (.str _) (.cons (dp_oV _) .nil))⟩)
theorem dok_gs {ws : Mp} (h : ∀ e ∈ ws, alT e.1) : Dok 2 (dGs ws) := .list fun x hx => by
  obtain ⟨e, he, rfl⟩ := List.mem_map.mp hx
  refine .tup fun y hy => ?_
  simp only [List.mem_cons, List.not_mem_nil, or_false] at hy
  rcases hy with rfl | rfl
  · exact .str 0 (h e he)
  · exact dok_o 0 _
def dRs : Rs → PyData
  | none => .list []
  | some (g, n, k, t) => .list [.tuple [.int g, .tuple [.str "look", .int n, .str k, dO t]]]
theorem PAt.dp {K : PySem.W.Frag} {H : Hp} {p : Addr} {r : Rs} (h : PAt H p r) : Dp K H (.ref p) (dRs r) := by
  cases h with
  | no h => exact .lst (SqL.of (xs := []) h) .nil
  | yes x y g n k t h hx hy => exact .lst (SqL.of h) (.cons (.tup (SqT.of hx) (.cons (.int _) (.cons (.tup (SqT.of hy) (.cons (.str _) (.cons (.int _) (.cons (.str _) (.cons (dp_oV _) .nil))))) .nil))) .nil)
theorem al_look : alT "look" := by decide +kernel
theorem dok_rs {r : Rs} (h : ∀ g n k t, r = some (g, n, k, t) → alT k) : Dok 3 (dRs r) := by
  match r, h with
  | none, _ => exact .list fun x hx => by simp at hx
  | some (g, n, k, t), h =>
    refine .list fun x hx => ?_
    simp only [List.mem_cons, List.not_mem_nil, or_false] at hx
    subst hx
    refine .tup fun y hy => ?_
    simp only [List.mem_cons, List.not_mem_nil, or_false] at hy
    rcases hy with rfl | rfl
    · exact .int 1 _
    · refine .tup fun z hz => ?_
      simp only [List.mem_cons, List.not_mem_nil, or_false] at hz
      rcases hz with rfl | rfl | rfl | rfl
      · exact .str 0 al_look
      · exact .int 0 _
      · exact .str 0 (h g n k t rfl)
      · exact dok_o 0 _
theorem rd_new : ¬ ("reading" : Str) = "new" := by decide +kernel
theorem wt_new : ¬ ("waiting" : Str) = "new" := by decide +kernel
theorem wt_rd : ¬ ("waiting" : Str) = "reading" := by decide +kernel
theorem en_new : ¬ ("ended" : Str) = "new" := by decide +kernel
theorem en_rd : ¬ ("ended" : Str) = "reading" := by decide +kernel
theorem Ri.beg {ks : List Str} {S : RS} (h : Ri ks S) (hi : Int) : Ri ks (rbeg S hi) := by
  unfold rbeg
  split
  · rename_i c
    exact ⟨fun _ => h.nx (.inl c), .inr ⟨_, rfl⟩⟩
  · exact h
theorem Ri.push {ks : List Str} {S : RS} (h : Ri ks S) (lo hi : Int) : Ri ks (rps S lo hi) := by
  unfold rps
  split
  · exact h.beg hi
  · unfold rend
    split
    · rename_i c
      refine ⟨fun q => ?_, ?_⟩
      · rcases q with q | q
        · exact absurd q en_new
        · exact absurd q en_rd
      · rcases (h.beg hi).tm with q | q
        · rw [c.1] at q
          exact absurd q wt_new
        · exact .inr q
    · exact h.beg hi
theorem rps_got (S : RS) (lo hi : Int) : (rps S lo hi).got = S.got := by
  have e : (rbeg S hi).got = S.got := by
    unfold rbeg
    split <;> rfl
  unfold rps rend
  split
  · exact e
  · split <;> exact e
theorem hit_all {S : RS} {n : Int} {ks : List Str} {L : Lt} (h : hit S n ks L = true) : L.seen = true ∧ L.n = n ∧ S.ph = "reading" ∧ L.k = ks.getD S.got.length Str.empty := by
  unfold hit at h
  rw [Bool.and_eq_true, Bool.and_eq_true, Bool.and_eq_true] at h
  exact ⟨h.1.1.1, of_decide_eq_true h.1.1.2, of_decide_eq_true h.1.2, of_decide_eq_true h.2⟩
theorem Ri.recv {ks : List Str} {S : RS} (h : Ri ks S) (n : Int) (L : Lt) : Ri ks (rrc S n ks L) := by
  unfold rrc
  split
  · rename_i c
    obtain ⟨_, _, h3, _⟩ := hit_all c
    have hl := h.nx (.inr h3)
    refine ⟨fun q => ?_, ?_⟩
    · show (S.got ++ [(L.k, L.v)]).length < ks.length
      rw [List.length_append]
      show S.got.length + 1 < _
      have q : (if S.got.length + 1 = ks.length then ("waiting" : Str) else S.ph) = "new" ∨ (if S.got.length + 1 = ks.length then ("waiting" : Str) else S.ph) = "reading" := q
      split at q
      · rcases q with q | q
        · exact absurd q wt_new
        · exact absurd q wt_rd
      · omega
    · rcases h.tm with q | q
      · rw [h3] at q
        exact absurd q rd_new
      · exact .inr q
  · exact h
theorem MAt.kpi {H H' : Hp} {x d ko fo go : Addr} {n : Int} {ks cs : List Str} {as : List Addr} {S : RS} {C dx : Addr} {fs} (h : MAt H d ko fo go n ks cs as S) (k : Kp H H' x) (hx : H x = some (.ins C dx fs)) : MAt H' d ko fo go n ks cs as S := by
  have ne : ∀ {b : Addr} {u : HO}, H b = some u → (∀ C d f, u ≠ .ins C d f) → b ≠ x := fun hb hu q => by
    rw [q, hx] at hb
    exact hu _ _ _ (Option.some.inj hb).symm
  exact ⟨k _ _ h.ob (ne h.ob fun _ _ _ q => by cases q), k _ _ h.ke (ne h.ke fun _ _ _ q => by cases q), k _ _ h.fe (ne h.fe fun _ _ _ q => by cases q), h.go.kp k (ne h.go.at_ fun _ _ _ q => by cases q) fun xs q => by
    rw [hx] at q
    cases q⟩
theorem MAt.kp2 {H H' : Hp} {x y d ko fo go : Addr} {n : Int} {ks cs : List Str} {as : List Addr} {S : RS} {C dx : Addr} {fs xs} (h : MAt H d ko fo go n ks cs as S) (k : Kp2 H H' x y) (hx : H x = some (.ins C dx fs)) (hy : H y = some (.lst xs)) (n1 : ko ≠ y) (n2 : fo ≠ y) (n3 : go ≠ y) : MAt H' d ko fo go n ks cs as S := by
  have ne : ∀ {b : Addr} {u : HO}, H b = some u → (∀ C d f, u ≠ .ins C d f) → b ≠ x := fun hb hu q => by
    rw [q, hx] at hb
    exact hu _ _ _ (Option.some.inj hb).symm
  have nl : ∀ {b : Addr} {u : HO}, H b = some u → (∀ xs, u ≠ .lst xs) → b ≠ y := fun hb hu q => by
    rw [q, hy] at hb
    exact hu _ (Option.some.inj hb).symm
  exact ⟨k _ _ h.ob (ne h.ob fun _ _ _ q => by cases q) (nl h.ob fun _ q => by cases q), k _ _ h.ke (ne h.ke fun _ _ _ q => by cases q) n1, k _ _ h.fe (ne h.fe fun _ _ _ q => by cases q) n2, k _ _ h.go.at_ (ne h.go.at_ fun _ _ _ q => by cases q) n3, h.go.len, fun j a e => by
    obtain ⟨o, h1, h2⟩ := h.go.each j a e
    exact ⟨o, h1, k _ _ h2 (ne h2 fun _ _ _ q => by cases q) (nl h2 fun _ q => by cases q)⟩⟩
theorem LAt.kp2 {H H' : Hp} {x y l : Addr} {L : Lt} {C dx : Addr} {fs xs} (h : LAt H l L) (k : Kp2 H H' x y) (hx : H x = some (.ins C dx fs)) (hy : H y = some (.lst xs)) : LAt H' l L := by
  have ne : ∀ {b : Addr} {u : List V}, H b = some (.tup u) → b ≠ x := fun hb q => by
    rw [q, hx] at hb
    cases hb
  have nl : ∀ {b : Addr} {u : List V}, H b = some (.tup u) → b ≠ y := fun hb q => by
    rw [q, hy] at hb
    cases hb
  cases h with
  | seen n m v h => exact .seen _ n m v (k _ _ h (ne h) (nl h))
  | other n m v h => exact .other _ n m v (k _ _ h (ne h) (nl h))
theorem Same.kp2 {B H H' : Hp} {x y : Addr} (s : Same B H) (k : Kp2 H H' x y) (hx : B x = none) (hy : B y = none) : Same B H' := fun b u hb => k _ _ (s _ _ hb) (ne_of_none hb hx) (ne_of_none hb hy)
theorem Same.kpx {B H H' : Hp} {x : Addr} (s : Same B H) (k : Kp H H' x) (hx : B x = none) : Same B H' := fun b u hb => k _ _ (s _ _ hb) (ne_of_none hb hx)
theorem rpr_al {S : RS} {n : Int} {ks cs : List Str} {hi : Int} (hI : Ri ks S) (hka : ∀ k ∈ ks, alT k) : ∀ g m k t, rpr S n ks cs hi = some (g, m, k, t) → alT k := fun g m k t e => by
  unfold rpr at e
  split at e
  · rename_i c2
    have hl : S.got.length < ks.length := hI.nx (by
      by_cases q : S.ph = "new"
      · exact .inl q
      · refine .inr ?_
        have : rbeg S hi = S := if_neg q
        rw [this] at c2
        exact c2)
    have e3 := congrArg (fun x : Int × Int × Str × Option Int => x.2.2.1) (Option.some.inj e)
    have e3 : ks.getD S.got.length Str.empty = k := e3
    rw [← e3, List.getD_eq_getElem?_getD, List.getElem?_eq_getElem hl]
    exact hka _ (List.getElem_mem hl)
  · cases e
def spLaw (K : PySem.W.Frag) : Sp := fun vs H Q _ => ∃ (a : Addr) (ns : List Int), vs = [.ref a] ∧ SqL K H a (ns.map V.int) ∧ ns.length ≤ 63 ∧ ∀ H', Q (.bl true) H'
def sp_law (T : Env K mg) : Sp := spLaw K
theorem ok_law (T : Env K mg) : FnOk P w K mg base CX0 9 T.a_law T.d_law ["script"] (sp_law T) := by
  refine T.F_law.ok sc_law (fun vs H Q E h => by obtain ⟨_, _, rfl, _⟩ := h; rfl) (fun cdv A outer s H vs Q E hr h => ?_)
  obtain ⟨a0, ns, rfl, hS0, hlen, h1⟩ := h
  have hu64 := hu64_of hr
  have G__law_cell := ok__law_cell (P := P) (w := w) (base := base) T
  have G__law_keys := ok__law_keys (P := P) (w := w) (base := base) T
  have G_Reader_init := ok_Reader_init (P := P) (w := w) (base := base) T
  have G_Reader_got := ok_Reader_got (P := P) (w := w) (base := base) T
  have G_Span_init := ok_Span_init (P := P) (w := w) (base := base) T
  have G__law_letter := ok__law_letter (P := P) (w := w) (base := base) T
  have G_Reader_receive := ok_Reader_receive (P := P) (w := w) (base := base) T
  have G_Reader_push := ok_Reader_push (P := P) (w := w) (base := base) T
  have G__law_push := ok__law_push (P := P) (w := w) (base := base) T
  have G_Reader_phase := ok_Reader_phase (P := P) (w := w) (base := base) T
  have G_Reader_time := ok_Reader_time (P := P) (w := w) (base := base) T
  have G_Reader_number := ok_Reader_number (P := P) (w := w) (base := base) T
  refine ⟨_, (pss_cons (ps_set (i := 1) sc_law.nd rfl (Or.inr rfl) (pe_call G__law_cell (hr.mono (by decide)) rfl T.g__law_cell T.F__law_cell.kp T.b__law_cell .nil passL (pa_cons (pv 0) (pa_cons pe_int pa_nil))))
      (pss_cons (ps_set (i := 2) sc_law.nd rfl (Or.inr rfl) (pe_call G__law_keys (hr.mono (by decide)) rfl T.g__law_keys T.F__law_keys.kp T.b__law_keys .nil passL (pa_cons (pe_call G__law_cell (hr.mono (by decide)) rfl T.g__law_cell T.F__law_cell.kp T.b__law_cell .nil passL (pa_cons (pv 0) (pa_cons pe_int pa_nil))) pa_nil)))
      (pss_cons (ps_set (i := 3) sc_law.nd rfl (Or.inl rfl) (pe_ix ix_list (pe_lst (pa_cons (pe_lst pa_nil) (pa_cons (pe_lst (pa_cons (pe_ix ix_list (pv 2) pe_int (fun _ _ => rfl)) pa_nil)) (pa_cons (pe_lst (pa_cons (pe_ix ix_list (pv 2) pe_int (fun _ _ => rfl)) pa_nil)) (pa_cons (pe_lst (pa_cons (pe_ix ix_list (pv 2) pe_int (fun _ _ => rfl)) (pa_cons (pe_ix ix_list (pv 2) pe_int (fun _ _ => rfl)) pa_nil))) pa_nil))))) (pe_op op_mod (pe_callTy call_int1 (by rfl) T.z_int (by decide +kernel) (pa_cons (pv 1) pa_nil)) pe_int) (fun _ _ => rfl)))
      (pss_cons (ps_setLc (i := 4) (own := [("k", 9)]) (by rfl) sc_law.nd rfl rfl (sw_true rfl rfl rfl (by decide +kernel)) (pi_range1 rfl T.z_range (pa_cons pe_int pa_nil)) (blkOk_by (own := [("k", 9)]) (N := ["script", "first", "keys", "fences", "chosen", "number", "reader", "m", "true", "k", "cell", "span", "letter", "handed"]) (sc := defScope s_law) (by decide +kernel)) (fun _ _ _ _ _ => (pg_name (i := 9) sc_law.nd rfl (Or.inl rfl))) (fun _ _ _ _ _ => (pts_one (pt_cmpR op_eq (pe_op op_mod (pe_op op_fdiv (pv 1) (pe_ix (ixK (K := K) (r := rIxL) rfl ix_list) (pe_lst (pa_cons pe_int (pa_cons pe_int (pa_cons pe_int (pa_cons pe_int pa_nil))))) (pv 9) (fun _ _ => rfl))) pe_int) pe_int (nomark _)))) (fun _ _ _ _ _ => (pe_ix (ixK (K := K) (r := rIxL) rfl ix_list) (pv 2) (pv 9) (fun _ _ => rfl))))
      (pss_cons (ps_if (pt_cmpR (op_eqD hu64) (pv 4) (pe_lst pa_nil) (nomark _)) (pss_one (ps_set (i := 4) sc_law.nd rfl (Or.inl rfl) (pe_lst (pa_cons (pe_ix ix_list (pv 2) (pe_op op_mod (pe_op op_fdiv (pv 1) pe_int) pe_int) (fun _ _ => rfl)) pa_nil)))) pss_nil)
      (pss_cons (ps_set (i := 5) sc_law.nd rfl (Or.inl rfl) (pe_op op_mod (pe_op op_fdiv (pv 1) pe_int) pe_int))
      (pss_cons (ps_set (i := 6) sc_law.nd rfl (Or.inl rfl) (pe_make T.M_Reader G_Reader_init (hr.mono (by decide)) rfl T.k_Reader.mgC T.b_Reader_init .nil passL (pa_cons (pv 5) (pa_cons (pe_callTy call_list_of (by rfl) T.z_list (by decide +kernel) (pa_cons (pv 4) pa_nil)) (pa_cons (pe_callTy call_list_of (by rfl) T.z_list (by decide +kernel) (pa_cons (pv 3) pa_nil)) pa_nil)))))
      (pss_cons (ps_set (i := 7) sc_law.nd rfl (Or.inl rfl) (pe_disp (pps_cons pe_str (pv 5) (pps_cons pe_str (pv 4) (pps_cons pe_str (pv 3) (pps_cons pe_str pe_str (pps_cons pe_str pe_non (pps_cons pe_str (pe_lst pa_nil) pps_nil)))))) (by rfl) (by rfl) (fun z => by cases z) (by decide)))
      (pss_cons (ps_set (i := 8) sc_law.nd rfl (Or.inl rfl) pe_int)
      (pss_cons (ps_for PassesOwn.never rfl (pi_range2 rfl T.z_range (pa_cons pe_int (pa_cons (pe_callB (call_min2 rfl) (by rfl) T.z_min (by decide +kernel) (pa_cons pe_int (pa_cons (pe_callB call_len (by rfl) T.z_len (by decide +kernel) (pa_cons (pv 0) pa_nil)) pa_nil))) pa_nil))) (pg_name (i := 9) sc_law.nd rfl (Or.inl rfl)) (pss_cons (ps_set (i := 10) sc_law.nd rfl (Or.inl rfl) (pe_call G__law_cell (hr.mono (by decide)) rfl T.g__law_cell T.F__law_cell.kp T.b__law_cell .nil passL (pa_cons (pv 0) (pa_cons (pv 9) pa_nil))))
      (pss_cons (ps_set (i := 8) sc_law.nd rfl (Or.inl rfl) (pe_callB (call_max2 rfl) (by rfl) T.z_max (by decide +kernel) (pa_cons pe_int (pa_cons (pe_op op_sub (pe_op op_add (pv 8) (pe_op op_mod (pe_op op_fdiv (pv 10) pe_int) pe_int)) pe_int) pa_nil))))
      (pss_cons (ps_if (pt_cmpR op_lt (pe_op op_mod (pe_callTy call_int1 (by rfl) T.z_int (by decide +kernel) (pa_cons (pv 10) pa_nil)) pe_int) pe_int (nomark _)) (pss_cons (ps_set (i := 11) sc_law.nd rfl (Or.inl rfl) (pe_make T.M_Span G_Span_init (hr.mono (by decide)) rfl T.k_Span.mgC T.b_Span_init .nil passL (pa_cons (pe_op op_sub (pv 8) (pe_op op_mod (pe_op op_fdiv (pv 10) pe_int) pe_int)) (pa_cons (pe_op op_add (pv 8) (pe_op op_mod (pe_op op_fdiv (pv 10) pe_int) pe_int)) pa_nil))))
      (pss_one (ps_if (pt_cmpR (op_neD hu64) (pe_meth (pv 6) T.k_Reader.cl T.m_Reader_push G_Reader_push (hr.mono (by decide)) T.b_Reader_push .nil passL (pa_cons (pv 11) pa_nil)) (pe_call G__law_push (hr.mono (by decide)) rfl T.g__law_push T.F__law_push.kp T.b__law_push .nil passL (pa_cons (pv 7) (pa_cons (pv 11) pa_nil))) (nomark _)) (pss_one (ps_ret pe_bl)) pss_nil))) (pss_cons (ps_set (i := 12) sc_law.nd rfl (Or.inl rfl) (pe_call G__law_letter (hr.mono (by decide)) rfl T.g__law_letter T.F__law_letter.kp T.b__law_letter .nil passL (pa_cons (pe_op op_fdiv (pv 10) pe_int) (pa_cons (pv 7) (pa_cons (pv 2) pa_nil)))))
      (pss_cons (ps_expr (pe_meth (pv 6) T.k_Reader.cl T.m_Reader_receive G_Reader_receive (hr.mono (by decide)) T.b_Reader_receive .nil passL (pa_cons (pv 12) pa_nil)))
      (pss_one (ps_if (PW.pt (pw_and (pt_cmpR op_eq (pe_ix ix_tup (pv 12) pe_int (fun _ _ => rfl)) pe_str (nomark _)) (pw_and (pt_cmpR op_eq (pe_ix ix_tup (pv 12) pe_int (fun _ _ => rfl)) (pv 5) (nomark _)) (pw_and (pt_cmpR op_eq (pe_dget (hu_of hr) (pv 7) pe_str (fun _ _ => rfl)) pe_str (nomark _)) (pw_and1 (pt_cmpR op_eq (pe_ix ix_tup (pv 12) pe_int (fun _ _ => rfl)) (pe_ix ix_list (pv 4) (pe_callB call_len (by rfl) T.z_len (by decide +kernel) (pa_cons (pe_dget (hu_of hr) (pv 7) pe_str (fun _ _ => rfl)) pa_nil)) (fun _ _ => rfl)) (nomark _))))))) (pss_cons (ps_expr (pe_bm PySem.F.plainAttrs_list PySem.F.slot_list_append PySem.F.type_list_append mt_append (pe_dget (hu_of hr) (pv 7) pe_str (fun _ _ => rfl)) (pa_cons (pe_tup (pa_cons (pe_ix ix_tup (pv 12) pe_int (fun _ _ => rfl)) (pa_cons (pe_ix ix_tup (pv 12) pe_int (fun _ _ => rfl)) pa_nil))) pa_nil)))
      (pss_one (ps_if (pt_cmpR op_eq (pe_callB call_len (by rfl) T.z_len (by decide +kernel) (pa_cons (pe_dget (hu_of hr) (pv 7) pe_str (fun _ _ => rfl)) pa_nil)) (pe_callB call_len (by rfl) T.z_len (by decide +kernel) (pa_cons (pv 4) pa_nil)) (nomark _)) (pss_one (ps_dput (hu_of hr) (pv 7) pe_str pe_str rfl)) pss_nil))) pss_nil)))))
      (pss_cons (ps_set (i := 13) sc_law.nd rfl (Or.inl rfl) (pe_meth0 (pv 6) T.k_Reader.cl T.m_Reader_got G_Reader_got (hr.mono (by decide)) T.b_Reader_got .nil passL))
      (pss_cons (ps_expr (pe_bm PySem.F.plainAttrs_list PySem.F.slot_list_append PySem.F.type_list_append mt_append (pv 13) (pa_cons pe_int pa_nil)))
      (pss_one (ps_if (PW.pt (pw_or (pt_cmpR op_ne (pe_prop (pv 6) T.k_Reader.cl T.m_Reader_phase G_Reader_phase (hr.mono (by decide)) T.b_Reader_phase .nil passL rfl) (pe_dget (hu_of hr) (pv 7) pe_str (fun _ _ => rfl)) (nomark _)) (pw_or (pt_cmpR op_ne (pe_prop (pv 6) T.k_Reader.cl T.m_Reader_time G_Reader_time (hr.mono (by decide)) T.b_Reader_time .nil passL rfl) (pe_dget (hu_of hr) (pv 7) pe_str (fun _ _ => rfl)) (nomark _)) (pw_or (pt_cmpR (op_neD hu64) (pe_meth0 (pv 6) T.k_Reader.cl T.m_Reader_got G_Reader_got (hr.mono (by decide)) T.b_Reader_got .nil passL) (pe_dget (hu_of hr) (pv 7) pe_str (fun _ _ => rfl)) (nomark _)) (pw_or1 (pt_cmpR op_ne (pe_prop (pv 6) T.k_Reader.cl T.m_Reader_number G_Reader_number (hr.mono (by decide)) T.b_Reader_number .nil passL rfl) (pv 5) (nomark _))))))) (pss_one (ps_ret pe_bl)) pss_nil))))))))
      (pss_one (ps_ret pe_bl)))))))))))), ?_⟩
  refine ⟨_, rfl, a0, ns, 0, rfl, hS0, by decide, ?_⟩
  refine ⟨_, rfl, a0, ns, 1, rfl, hS0, by decide, _, rfl, cell_nn ns 1, fun pk ps B sB npk hpl hkk hK => ?_⟩
  have hf0 := cell_nn ns 0
  generalize cell ns 0 = f at hf0
  obtain ⟨k1, hk1, _⟩ := at_strs (ks := ps) (z := 1) (by decide) (by omega)
  obtain ⟨k2, hk2, _⟩ := at_strs (ks := ps) (z := 2) (by decide) (by omega)
  obtain ⟨k3, hk3, _⟩ := at_strs (ks := ps) (z := 3) (by decide) (by omega)
  refine ⟨Nat.zero_le _, fun q0 nq0 => ?_⟩
  have z0 := same_new (o := .lst (([] : List Str).map V.str)) nq0
  refine ⟨_, rfl, pk, _, _, .str k1, rfl, rfl, SqL.of (z0 _ _ hK), hk1, (by show 1 ≤ sizeLine; decide), fun q1 nq1 => ?_⟩
  have z1 := z0.trans (same_new (o := .lst ([k1].map V.str)) nq1)
  refine ⟨_, rfl, pk, _, _, .str k2, rfl, rfl, SqL.of (z1 _ _ hK), hk2, (by show 1 ≤ sizeLine; decide), fun q2 nq2 => ?_⟩
  have z2 := z1.trans (same_new (o := .lst ([k2].map V.str)) nq2)
  refine ⟨_, rfl, pk, _, _, .str k1, rfl, rfl, SqL.of (z2 _ _ hK), hk1, _, rfl, pk, _, _, .str k3, rfl, rfl, SqL.of (z2 _ _ hK), hk3, (by show 2 ≤ sizeLine; decide), fun q3 nq3 => ⟨(by show 4 ≤ sizeLine; decide), fun q4 nq4 => ?_⟩⟩
  have y1 := same_new (o := .lst ([k1].map V.str)) nq1
  have y2 := same_new (o := .lst ([k2].map V.str)) nq2
  have y3 := same_new (o := .lst ([k1, k3].map V.str)) nq3
  have y4 := same_new (o := .lst [.ref q0, .ref q1, .ref q2, .ref q3]) nq4
  have z4 := (z2.trans y3).trans y4
  obtain ⟨fo, cs, hfo, hfe, hcl⟩ : ∃ (fo : Addr) (cs : List Str), atI [V.ref q0, .ref q1, .ref q2, .ref q3] (f % 4) = some (.ref fo) ∧ upd (upd (upd (upd (upd B q0 (.lst (([] : List Str).map V.str))) q1 (.lst ([k1].map V.str))) q2 (.lst ([k2].map V.str))) q3 (.lst ([k1, k3].map V.str))) q4 (.lst [.ref q0, .ref q1, .ref q2, .ref q3]) fo = some (.lst (cs.map V.str)) ∧ cs.length ≤ 2 := by
    obtain ⟨j, hj, e⟩ : ∃ j : Nat, j < 4 ∧ f % 4 = (j : Int) := ⟨(f % 4).toNat, by omega, by omega⟩
    match j, hj with
    | 0, _ => exact ⟨q0, [], at_of e rfl, y4 _ _ (y3 _ _ (y2 _ _ (y1 _ _ upd_same))), by decide⟩
    | 1, _ => exact ⟨q1, [k1], at_of e rfl, y4 _ _ (y3 _ _ (y2 _ _ upd_same)), by show 1 ≤ 2; decide⟩
    | 2, _ => exact ⟨q2, [k2], at_of e rfl, y4 _ _ (y3 _ _ upd_same), by show 1 ≤ 2; decide⟩
    | 3, _ => exact ⟨q3, [k1, k3], at_of e rfl, y4 _ _ upd_same, by show 2 ≤ 2; decide⟩
  refine ⟨_, rfl, .inl ⟨_, rfl, _, _, rfl, rfl, by show (0 : Int) < _; decide, q4, _, _, .ref fo, rfl, rfl, SqL.of upd_same, hfo, ?_⟩⟩
  have z5 : Same B (upd (upd (upd (upd (upd B q0 (.lst (([] : List Str).map V.str))) q1 (.lst ([k1].map V.str))) q2 (.lst ([k2].map V.str))) q3 (.lst ([k1, k3].map V.str))) q4 (.lst [.ref q0, .ref q1, .ref q2, .ref q3])) := z4
  show tSeq _ _ _ _ (upd (upd (upd (upd (upd B q0 (.lst (([] : List Str).map V.str))) q1 (.lst ([k1].map V.str))) q2 (.lst ([k2].map V.str))) q3 (.lst ([k1, k3].map V.str))) q4 (.lst [.ref q0, .ref q1, .ref q2, .ref q3]))
  generalize upd (upd (upd (upd (upd B q0 (.lst (([] : List Str).map V.str))) q1 (.lst ([k1].map V.str))) q2 (.lst ([k2].map V.str))) q3 (.lst ([k1, k3].map V.str))) q4 (.lst [.ref q0, .ref q1, .ref q2, .ref q3]) = B4 at hfe z5
  have sB4 := sB.trans z5
  have hK4 := z5 _ _ hK
  clear z4 y4 y3 y2 y1 z2 z1 z0
  refine ⟨4, rfl, by decide, by decide, fun D hD => ?_⟩
  refine lc_range (lo := 0) (n := 4) (fun i H' => Same B4 H' ∧ ∃ ch : List Str, ch.length ≤ i ∧ (∀ k ∈ ch, alT k) ∧ H' D = some (.lst (ch.map V.str))) ⟨same_new hD, [], Nat.le_refl _, fun k hk => by simp at hk, upd_same⟩ ?_ ?_
  · rintro i H' hi ⟨sA, ch, hl, hal, hp⟩
    refine ⟨rfl, _, rfl, (by show 4 ≤ sizeLine; decide), fun y ny => ?_⟩
    obtain ⟨e, he, he0⟩ : ∃ e : Int, atI [V.int 4, .int 8, .int 16, .int 32] (0 + (i : Int)) = some (.int e) ∧ 0 < e ∧ e ≤ 32 := by
      match i, hi with
      | 0, _ => exact ⟨4, rfl, by decide, by decide⟩
      | 1, _ => exact ⟨8, rfl, by decide, by decide⟩
      | 2, _ => exact ⟨16, rfl, by decide, by decide⟩
      | 3, _ => exact ⟨32, rfl, by decide, by decide⟩
    have sy := same_new (o := .lst [V.int 4, .int 8, .int 16, .int 32]) ny
    refine ⟨_, rfl, y, _, _, .int e, rfl, rfl, SqL.of upd_same, he, _, _, rfl, rfl, ⟨he0.1, by omega⟩, _, _, rfl, rfl, by show (0 : Int) < _; decide, rfl, _, rfl, ?_⟩
    refine ite2 (fun _ => ?_) (fun _ => ⟨sA.trans sy, ch, by omega, hal, sy _ _ hp⟩)
    obtain ⟨k, hk, hm⟩ := at_strs (ks := ps) (z := 0 + (i : Int)) (by omega) (by omega)
    refine ⟨_, rfl, _, rfl, pk, _, _, .str k, rfl, rfl, SqL.of (sy _ _ (sA _ _ hK4)), hk, _, sy _ _ hp, szl (by rw [List.length_map]; omega), same_mut (sA.trans sy) hD, ch ++ [k], by rw [List.length_append]; show ch.length + 1 ≤ _; omega, fun x hx => ?_, by rw [upd_same, List.map_append]; rfl⟩
    rcases List.mem_append.mp hx with z | z
    · exact hal x z
    · have : x = k := by simpa using z
      rw [this]
      exact (hkk k hm).1
  rintro B5 ⟨s5, ch, hchl, hcha, hch⟩
  have sB5 := sB4.trans s5
  have hK5 := s5 _ _ hK4
  have hfe5 := s5 _ _ hfe
  clear s5 hK4 hfe sB4 z5 hfo
  refine ⟨_, rfl, Nat.zero_le _, fun qe nqe => ?_⟩
  have se := same_new (o := .lst (([] : List Str).map V.str)) nqe
  refine ⟨_, _, dp_strs (SqL.of (se _ _ hch)), dp_strs (ts := []) (SqL.of upd_same), shaped_strs hcha, shaped_strs (ts := []) (fun t h => by simp at h), _, rfl, ?_⟩
  have hK6 := se _ _ hK5
  have hfe6 := se _ _ hfe5
  have hch6 := se _ _ hch
  have sB6 := sB5.trans se
  apply via2p (fun σ HX => ∃ (ko : Addr) (ks : List Str), σ = [some (.ref a0), some (.int f), some (.ref pk), some (.ref fo), some (.ref ko), none, none, none, none, none, none, none, none, none] ∧ Same H HX ∧ HX ko = some (.lst (ks.map V.str)) ∧ HX fo = some (.lst (cs.map V.str)) ∧ HX pk = some (.lst (ps.map V.str)) ∧ 0 < ks.length ∧ ks.length ≤ 4 ∧ ∀ k ∈ ks, alT k)
  · intro fin
    have ee : PyData.eqv (dStrs ch) (dStrs []) = decide (ch = []) := by
      cases ch with
      | nil => rfl
      | cons k r => rfl
    rw [ee]
    refine iteD (fun _ => ?_) (fun c => ?_)
    rotate_left
    · exact fin _ _ ⟨D, ch, rfl, sB5.trans se, hch6, hfe6, hK6, List.length_pos_iff.mpr c, hchl, hcha⟩
    · skip
      obtain ⟨k, hk, hm⟩ := at_strs (ks := ps) (z := f / 64 % 4) (by omega) (by omega)
      refine ⟨_, rfl, _, rfl, _, _, rfl, rfl, ⟨by decide, by decide⟩, _, _, rfl, rfl, by show (0 : Int) < _; decide, pk, _, _, .str k, rfl, rfl, SqL.of hK6, hk, (by show 1 ≤ sizeLine; decide), fun ko nko => ?_⟩
      have sk := same_new (o := .lst ([k].map V.str)) nko
      refine fin _ _ ⟨ko, [k], rfl, (sB5.trans se).trans sk, upd_same, sk _ _ hfe6, sk _ _ hK6, by show 0 < 1; decide, by show 1 ≤ 4; decide, fun x hx => ?_⟩
      have : x = k := by simpa using hx
      rw [this]
      exact (hkk k hm).1
  rintro σ B7 ⟨ko, ks, rfl, sB7, hko, hfo7, hK7, hk0, hk4, hka⟩
  clear hch hcha hchl hch6 hfe6 hK6 hfe5 hK5 se nqe sB5 sB6
  refine ⟨_, rfl, _, _, rfl, rfl, ⟨by decide, by decide⟩, _, _, rfl, rfl, by show (0 : Int) < _; decide, ?_⟩
  obtain ⟨nn, hnn⟩ : ∃ nn, f / 256 % 9 = nn := ⟨_, rfl⟩
  refine ⟨_, rfl, _, rfl, ko, _, rfl, .inl (SqL.of hko), fun p1 np1 => ⟨_, rfl, fo, _, rfl, .inl (SqL.of (same_new np1 _ _ hfo7)), fun p2 np2 => ?_⟩⟩
  have s12 := (same_new (o := .lst (ks.map V.str)) np1).trans (same_new (o := .lst (cs.map V.str)) np2)
  have h1p : upd (upd B7 p1 (.lst (ks.map V.str))) p2 (.lst (cs.map V.str)) p1 = some (.lst (ks.map V.str)) := same_new np2 _ _ upd_same
  have h2p : upd (upd B7 p1 (.lst (ks.map V.str))) p2 (.lst (cs.map V.str)) p2 = some (.lst (cs.map V.str)) := upd_same
  generalize upd (upd B7 p1 (.lst (ks.map V.str))) p2 (.lst (cs.map V.str)) = B8 at s12 h1p h2p
  intro a dxa na ndx nex
  have sa := Same.made (C := T.a_Reader) na ndx fun b o e _ => e
  refine ⟨a, dxa, _, p1, p2, ks, cs, rfl, upd_same, sa _ _ h1p, sa _ _ h2p, fun wA c g H9 nw nc ng hR kp => ⟨rfl, ?_⟩⟩
  have s79 : Same B7 H9 := s12.trans (Same.made na ndx kp)
  have B7a : B7 a = none := s12.free na
  have B7g : B7 g = none := (s12.trans sa).free ng
  refine fun d nd => ?_
  refine ⟨_, rfl, _, rfl, _, rfl, Nat.zero_le _, fun go ngo => ⟨?_, zD MN (mv (f / 256 % 9) ko fo go ⟨"new", none, []⟩), rfl, (by show 6 ≤ 15; decide), ?_⟩⟩
  · exact same_new ngo _ _ upd_same
  rw [show mergeK [] (zD MN (mv (f / 256 % 9) ko fo go ⟨"new", none, []⟩)) = zD MN (mv (f / 256 % 9) ko fo go ⟨"new", none, []⟩) from zmerge (n1 := []) (v1 := []) mnd rfl rfl]
  rw [hnn]
  rw [hnn] at hR
  have s9 : Same B7 (upd (upd (upd H9 d (.dK [])) go (.lst [])) d (.dK (zD MN (mv nn ko fo go ⟨"new", none, []⟩)))) := fun b u hb => by
    have h2 := s79 _ _ hb
    have n1 := ne_of_none h2 nd
    have h3 : upd H9 d (.dK []) b = some u := by rw [upd_ne n1]; exact h2
    rw [upd_ne n1, upd_ne (ne_of_none h3 ngo)]
    exact h3
  have god : go ≠ d := (ne_of_none upd_same ngo).symm
  have hgo9 : upd (upd (upd H9 d (.dK [])) go (.lst [])) d (.dK (zD MN (mv nn ko fo go ⟨"new", none, []⟩))) go = some (.lst []) := by rw [upd_ne god, upd_same]
  have H9go : H9 go = none := by
    rw [upd_ne god] at ngo
    exact ngo
  have hR9 : RdAt T (upd (upd (upd H9 d (.dK [])) go (.lst [])) d (.dK (zD MN (mv nn ko fo go ⟨"new", none, []⟩)))) a wA c g nn ks cs [] ⟨"new", none, []⟩ := by
    have k9 : Same H9 (upd (upd (upd H9 d (.dK [])) go (.lst [])) d (.dK (zD MN (mv nn ko fo go ⟨"new", none, []⟩)))) := fun b u h2 => by
      have n1 := ne_of_none h2 nd
      have h3 : upd H9 d (.dK []) b = some u := by rw [upd_ne n1]; exact h2
      rw [upd_ne n1, upd_ne (ne_of_none h3 ngo)]
      exact h3
    exact hR.same k9
  have hM9 : MAt (upd (upd (upd H9 d (.dK [])) go (.lst [])) d (.dK (zD MN (mv nn ko fo go ⟨"new", none, []⟩)))) d ko fo go nn ks cs [] ⟨"new", none, []⟩ := ⟨upd_same, s9 _ _ hko, s9 _ _ hfo7, ⟨hgo9, rfl, fun j b hj => by simp at hj⟩⟩
  have ggo : g ≠ go := ne_of_none hR.go.at_ H9go
  have B7d : B7 d = none := s79.free nd
  have B7go : B7 go = none := s79.free H9go
  show tSeq _ _ _ _ (upd (upd (upd H9 d (.dK [])) go (.lst [])) d (.dK (zD MN (mv nn ko fo go ⟨"new", none, []⟩))))
  generalize upd (upd (upd H9 d (.dK [])) go (.lst [])) d (.dK (zD MN (mv nn ko fo go ⟨"new", none, []⟩))) = HB at s9 hR9 hM9 hgo9
  clear hR kp nd ngo np1 np2 na ndx nw nc ng
  refine ⟨_, rfl, _, _, rfl, .inl ⟨_, (sB7.trans s9).seq hS0, rfl⟩, _, _, rfl, ?_⟩
  rw [List.length_map]
  obtain ⟨n, hn, hn63⟩ : ∃ n : Nat, (if ((ns.length : Nat) : Int) < 63 then ((ns.length : Nat) : Int) else (63 : Int)) = (n : Int) ∧ n ≤ 63 := ⟨(if ((ns.length : Nat) : Int) < 63 then ((ns.length : Nat) : Int) else (63 : Int)).toNat, by split <;> omega, by split <;> omega⟩
  rw [hn]
  refine ⟨_, _, rfl, ⟨by decide, by decide, by omega, by omega⟩, ?_⟩
  have hks : ∀ (S : RS) (k : Str), k = ks.getD S.got.length Str.empty → S.got.length < ks.length → alT k := fun S k e hl => by
    rw [e, List.getD_eq_getElem?_getD, List.getElem?_eq_getElem hl]
    exact hka _ (List.getElem_mem hl)
  refine for_range (n := (((n : Nat) : Int) - 2).toNat) (fun i σ HX => ∃ (tr : Int) (v9 v10 v11 v12 v13 : Option V) (as bs : List Addr) (S : RS), σ = [some (.ref a0), some (.int f), some (.ref pk), some (.ref fo), some (.ref ko), some (.int nn), some (.ref a), some (.ref d), some (.int tr), v9, v10, v11, v12, v13] ∧ 0 ≤ tr ∧ Same B7 HX ∧ RdAt T HX a wA c g nn ks cs as S ∧ MAt HX d ko fo go nn ks cs bs S ∧ Ri ks S ∧ (∀ e ∈ S.got, alT e.1) ∧ S.got.length ≤ i) ⟨0, none, none, none, none, none, [], [], _, (by rw [← hnn]; rfl), Int.le_refl _, s9, hR9, hM9, ⟨fun _ => hk0, .inl rfl⟩, fun e he => by simp at he, Nat.le_refl _⟩ ?_ ?_
  rotate_left
  · rintro σ HA ⟨_, _, _, _, _, _, _, _, _, rfl, _⟩
    exact h1 _
  rintro i σ HX hi ⟨tr, v9, v10, v11, v12, v13, as, bs, S, rfl, htr, sX, hR, hM, hI, hal, hgl⟩
  have hi61 : i < 61 := by omega
  refine ⟨_, rfl, _, rfl, a0, ns, _, rfl, (sB7.trans sX).seq hS0, by omega, ?_⟩
  have hc0 := cell_nn ns (2 + (i : Int))
  generalize cell ns (2 + (i : Int)) = e at hc0
  refine ⟨_, rfl, _, rfl, _, _, rfl, rfl, ⟨by decide, by decide⟩, _, _, rfl, rfl, by show (0 : Int) < _; decide, _, _, rfl, rfl, _, _, rfl, rfl, _, _, rfl, ?_⟩
  obtain ⟨t2, ht2, ht0⟩ : ∃ t2, (if tr + e / 5 % 9 - 2 > 0 then tr + e / 5 % 9 - 2 else 0) = t2 ∧ 0 ≤ t2 := ⟨_, rfl, by split <;> omega⟩
  obtain ⟨dxR, haR⟩ := hR.ob
  have ad : a ≠ d := fun q => by
    rw [q, hM.ob] at haR
    cases haR
  have gd : g ≠ d := fun q => by
    have := hR.go.at_
    rw [q, hM.ob] at this
    cases this
  apply via2p (fun σ HY => ∃ (v11 v12 : Option V) (as bs : List Addr) (S : RS), σ = [some (.ref a0), some (.int f), some (.ref pk), some (.ref fo), some (.ref ko), some (.int nn), some (.ref a), some (.ref d), some (.int t2), some (.int (2 + (i : Int))), some (.int e), v11, v12, v13] ∧ Same B7 HY ∧ RdAt T HY a wA c g nn ks cs as S ∧ MAt HY d ko fo go nn ks cs bs S ∧ Ri ks S ∧ (∀ e ∈ S.got, alT e.1) ∧ S.got.length ≤ i + 1)
  · intro fin
    refine ⟨_, rfl, .inl ⟨_, rfl, _, _, rfl, rfl, by show (0 : Int) < _; decide, _, _, rfl, rfl, _, rfl, iteD (fun c1 => ?_) (fun c1 => ?_)⟩⟩
    · -- a push
      refine ⟨_, rfl, _, rfl, _, _, rfl, rfl, ⟨by decide, by decide⟩, _, _, rfl, rfl, by show (0 : Int) < _; decide, _, _, rfl, rfl, ?_⟩
      refine ⟨_, rfl, _, rfl, _, _, rfl, rfl, ⟨by decide, by decide⟩, _, _, rfl, rfl, by show (0 : Int) < _; decide, _, _, rfl, rfl, ?_⟩
      intro b dxb nb ndb neb
      refine ⟨b, dxb, _, _, rfl, upd_same, fun _ H1 hSp kp => ⟨rfl, ?_⟩, fun hlt => absurd hlt (by omega)⟩
      obtain ⟨lo, hlo⟩ : ∃ lo, (if tr + e / 5 % 9 - 2 > 0 then tr + e / 5 % 9 - 2 else 0) - e / 45 % 6 = lo := ⟨_, rfl⟩
      obtain ⟨hi', hhi⟩ : ∃ hi', (if tr + e / 5 % 9 - 2 > 0 then tr + e / 5 % 9 - 2 else 0) + e / 270 % 6 = hi' := ⟨_, rfl⟩
      have hSp : SpanAt T H1 b lo hi' := by rw [← hlo, ← hhi]; exact hSp
      have sS : Same HX H1 := Same.made nb ndb kp
      have hR1 := hR.same sS
      have hM1 := hM.same sS
      have ha1 := sS _ _ haR
      have ab : a ≠ b := ne_of_none haR nb
      refine ⟨_, rfl, a, _, _, rfl, ha1, rno (by decide +kernel), _, rfl, a, wA, c, g, b, nn, ks, cs, as, S, lo, hi', rfl, hR1, hSp, hI, by omega, ab, fun p H2 k2 np hR2 hP2 => ?_⟩
      have hM2 := hM1.kpi k2 ha1
      obtain ⟨db, hbb⟩ := id hSp
      have hSp2 : SpanAt T H2 b lo hi' := ⟨db, k2 _ _ hbb (Ne.symm ab)⟩
      refine ⟨_, rfl, _, rfl, d, ko, fo, go, b, nn, ks, cs, bs, S, lo, hi', rfl, hM2, hSp2, hI, by omega, fun q H3 k3 nq hM3 hP3 => ?_⟩
      have ntd : ∀ xs, H2 d ≠ some (.tup xs) := fun xs z => by
        rw [hM2.ob] at z
        cases z
      have hR3 := hR2.kp k3 ad gd ntd
      have hP23 := hP2.kp k3 (ne_of_none hM1.ob np).symm ntd
      have hdk := dok_rs (rpr_al (n := nn) (cs := cs) (hi := hi') hI hka)
      refine ⟨_, _, hP23.dp, hP3.dp, hdk.shaped (by decide), hdk.shaped (by decide), _, rfl, ifF (by rw [hdk.eq]; rfl) ?_⟩
      refine fin _ _ ⟨_, _, as, bs, rps S lo hi', (by rw [← ht2]; rfl), Same.kpx (Same.kpx (sX.trans sS) k2 B7a) k3 B7d, hR3, hM3, hI.push lo hi', ?_, ?_⟩
      · rw [rps_got]
        exact hal
      · rw [rps_got]
        omega
    · -- a letter
      have hKX := sX _ _ hK7
      refine ⟨_, rfl, _, _, rfl, rfl, ⟨by decide, by decide⟩, _, rfl, _, rfl, d, ko, fo, go, pk, nn, _, ks, cs, ps, bs, S, rfl, hM, hI, hKX, hpl, fun k hk => (hkk k hk).1, hka, fun l L H1 s1 nl hL hLa => ?_⟩
      have hR1 := hR.same s1
      have hM1 := hM.same s1
      have ha1 := s1 _ _ haR
      refine ⟨_, rfl, a, _, _, rfl, ha1, rno (by decide +kernel), _, rfl, a, wA, c, g, l, nn, ks, cs, as, S, L, rfl, hR1, hL, hI, by omega, fun as' H2 k2 hR2 => ?_⟩
      have kg : ko ≠ g := ne_of_none hko B7g
      have fg : fo ≠ g := ne_of_none hfo7 B7g
      have hM2 := hM1.kp2 k2 ha1 hR1.go.at_ kg fg (Ne.symm ggo)
      have hL2 := hL.kp2 k2 ha1 hR1.go.at_
      have sX2 := Same.kp2 (sX.trans s1) k2 B7a B7g
      have hI2 := hI.recv nn L
      have hrg : (∀ e ∈ (rrc S nn ks L).got, alT e.1) ∧ (rrc S nn ks L).got.length ≤ i + 1 := by
        unfold rrc
        split
        · refine ⟨fun x hx => ?_, ?_⟩
          · rcases List.mem_append.mp hx with z | z
            · exact hal x z
            · have : x = (L.k, L.v) := by simpa using z
              rw [this]
              exact hLa
          · show (S.got ++ [(L.k, L.v)]).length ≤ _
            rw [List.length_append]
            show S.got.length + 1 ≤ _
            omega
        · exact ⟨hal, by omega⟩
      have no : hit S nn ks L = false → MAt H2 d ko fo go nn ks cs bs (rrc S nn ks L) := fun q => by
        rw [show rrc S nn ks L = S from if_neg (by rw [q]; decide)]
        exact hM2
      cases hL2 with
      | other n2 k v h =>
        have hM3 := no rfl
        refine ⟨_, rfl, l, _, _, _, rfl, rfl, SqT.of h, atI_nat (j := 0) rfl, rfl, _, rfl, ifF (by decide +kernel) (ifF rfl ?_)⟩
        exact fin _ _ ⟨_, _, as', bs, _, (by rw [← ht2]; rfl), sX2, hR2, hM3, hI2, hrg.1, hrg.2⟩
      | seen n2 k v h =>
        refine ⟨_, rfl, l, _, _, _, rfl, rfl, SqT.of h, atI_nat (j := 0) rfl, rfl, _, rfl, ifT (by decide +kernel) ?_⟩
        refine ⟨_, rfl, l, _, _, .int n2, rfl, rfl, SqT.of h, atI_nat (j := 1) rfl, _, rfl, rfl, _, rfl, ?_⟩
        by_cases e1 : n2 = nn
        rotate_left
        · have hM3 := no (by unfold hit; simp [e1])
          refine ifF (by simpa using e1) (ifF rfl ?_)
          exact fin _ _ ⟨_, _, as', bs, _, (by rw [← ht2]; rfl), sX2, hR2, hM3, hI2, hrg.1, hrg.2⟩
        refine ifT (by simpa using e1) ?_
        refine ⟨_, rfl, d, _, rfl, hM2.get 3 (by decide +kernel) (by decide) rfl, rfl, _, rfl, ?_⟩
        rw [dstr]
        by_cases e2 : S.ph = "reading"
        rotate_left
        · have hM3 := no (by unfold hit; simp [e2])
          refine ifF (decide_eq_false e2) (ifF rfl ?_)
          exact fin _ _ ⟨_, _, as', bs, _, (by rw [← ht2]; rfl), sX2, hR2, hM3, hI2, hrg.1, hrg.2⟩
        refine ifT (decide_eq_true e2) ?_
        have hlt := hI.nx (.inr e2)
        have hk : ks[S.got.length]? = some (ks.getD S.got.length Str.empty) := by
          rw [List.getD_eq_getElem?_getD, List.getElem?_eq_getElem hlt]
          rfl
        refine ⟨_, rfl, l, _, _, .str k, rfl, rfl, SqT.of h, atI_nat (j := 2) rfl, _, rfl, _, rfl, d, _, rfl, hM2.get 5 (by decide +kernel) (by decide) rfl, _, _, rfl, .inl ⟨_, SqL.of hM2.go.at_, rfl⟩, ko, _, _, .str (ks.getD S.got.length Str.empty), rfl, rfl, SqL.of hM2.ke, at_of (j := S.got.length) (by rw [List.length_map, hM2.go.len]) (by rw [List.getElem?_map, hk]; rfl), rfl, _, rfl, ?_⟩
        rw [dstr]
        by_cases e3 : k = ks.getD S.got.length Str.empty
        rotate_left
        · have hM3 := no (by unfold hit; rw [show decide (k = ks.getD S.got.length Str.empty) = false from decide_eq_false e3, Bool.and_false])
          refine ifF (decide_eq_false e3) ?_
          exact fin _ _ ⟨_, _, as', bs, _, (by rw [← ht2]; rfl), sX2, hR2, hM3, hI2, hrg.1, hrg.2⟩
        refine ifT (decide_eq_true e3) ?_
        have hh : hit S nn ks ⟨true, n2, k, v⟩ = true := by
          unfold hit
          rw [show decide (k = ks.getD S.got.length Str.empty) = true from decide_eq_true e3]
          simp [e1, e2]
        have er : rrc S nn ks ⟨true, n2, k, v⟩ = ⟨if S.got.length + 1 = ks.length then "waiting" else S.ph, S.tm, S.got ++ [(k, v)]⟩ := if_pos hh
        refine ⟨_, rfl, d, _, rfl, hM2.get 5 (by decide +kernel) (by decide) rfl, .inl ⟨rfl, _, SqL.of hM2.go.at_⟩, _, rfl, l, _, _, .str k, rfl, rfl, SqT.of h, atI_nat (j := 2) rfl, _, rfl, l, _, _, oV v, rfl, rfl, SqT.of h, atI_nat (j := 3) rfl, (by show 2 ≤ sizeLine; decide), fun y ny => ?_⟩
        have sy := same_new (o := .tup [.str k, oV v]) ny
        refine ⟨go, _, _, rfl, rfl, sy _ _ hM2.go.at_, szl (by rw [List.length_map, hM2.go.len]; omega), ?_⟩
        have hG := hM2.go.push sy (k := k) (v := v) upd_same
        have k3 : Kp H2 (upd (upd H2 y (.tup [.str k, oV v])) go (.lst (bs.map V.ref ++ [.ref y]))) go := (Kp.of sy go).upd
        have nlg : ∀ {b : Addr} {u : HO}, H2 b = some u → (∀ xs, u ≠ .lst xs) → b ≠ go := fun hb hu q => by
          rw [q, hM2.go.at_] at hb
          exact hu _ (Option.some.inj hb).symm
        have hM3 : MAt (upd (upd H2 y (.tup [.str k, oV v])) go (.lst (bs.map V.ref ++ [.ref y]))) d ko fo go nn ks cs (bs ++ [y]) ⟨S.ph, S.tm, S.got ++ [(k, v)]⟩ := ⟨k3 _ _ hM2.ob (nlg hM2.ob fun _ q => by cases q), k3 _ _ hM2.ke (ne_of_none hko B7go), k3 _ _ hM2.fe (ne_of_none hfo7 B7go), hG⟩
        obtain ⟨dx2, ha2⟩ := hR2.ob
        have hR3 := hR2.kp k3 (nlg ha2 fun _ q => by cases q) ggo fun xs q => by
          rw [hM2.go.at_] at q
          cases q
        have sX3 := Same.kpx sX2 k3 B7go
        show tSeq _ _ _ _ (upd (upd H2 y (.tup [.str k, oV v])) go (.lst (bs.map V.ref ++ [.ref y])))
        generalize upd (upd H2 y (.tup [.str k, oV v])) go (.lst (bs.map V.ref ++ [.ref y])) = H3 at hM3 hR3 sX3
        refine ⟨_, rfl, d, _, rfl, hM3.get 5 (by decide +kernel) (by decide) rfl, _, _, rfl, .inl ⟨_, SqL.of hM3.go.at_, rfl⟩, _, rfl, _, _, rfl, .inl ⟨_, SqL.of hM3.ke, rfl⟩, rfl, _, rfl, ?_⟩
        have el : (decide (V.int ((((bs ++ [y]).map V.ref).length : Nat) : Int) = V.int (((ks.map V.str).length : Nat) : Int))) = decide (S.got.length + 1 = ks.length) := by
          rw [List.length_map, List.length_map, List.length_append, hM2.go.len]
          show decide (V.int ((S.got.length + 1 : Nat) : Int) = V.int ((ks.length : Nat) : Int)) = _
          by_cases q : S.got.length + 1 = ks.length
          · rw [decide_eq_true q, decide_eq_true (by rw [q])]
          · rw [decide_eq_false q, decide_eq_false fun z => q (by have := V.int.inj z; omega)]
        rw [el]
        refine iteD (fun e4 => ?_) (fun e4 => ?_)
        · refine ⟨_, rfl, d, _, rfl, zdput hM3.ob 3 mnd (by decide +kernel) (by decide) rfl (by decide), ?_⟩
          have k4 : Kp H3 (upd H3 d (.dK (zD MN ((mv nn ko fo go ⟨S.ph, S.tm, S.got ++ [(k, v)]⟩).set 3 (.str "waiting"))))) d := (Kp.of (Same.refl H3) d).upd
          have ntd : ∀ xs, H3 d ≠ some (.tup xs) := fun xs z => by
            rw [hM3.ob] at z
            cases z
          have nkd : ∀ {b : Addr} {u : HO}, H3 b = some u → (∀ xs, u ≠ .dK xs) → b ≠ d := fun hb hu q => by
            rw [q, hM3.ob] at hb
            exact hu _ (Option.some.inj hb).symm
          refine fin _ _ ⟨_, _, as', bs ++ [y], _, (by rw [← ht2]; rfl), Same.kpx sX3 k4 B7d, hR3.kp k4 ad gd ntd, ?_, hI2, hrg.1, hrg.2⟩
          rw [er, if_pos e4]
          exact ⟨upd_same, k4 _ _ hM3.ke (nkd hM3.ke fun _ q => by cases q), k4 _ _ hM3.fe (nkd hM3.fe fun _ q => by cases q), hM3.go.kp k4 (nkd hM3.go.at_ fun _ q => by cases q) ntd⟩
        · refine fin _ _ ⟨_, _, as', bs ++ [y], _, (by rw [← ht2]; rfl), sX3, hR3, ?_, hI2, hrg.1, hrg.2⟩
          rw [er, if_neg e4]
          exact hM3
  rintro σ HY ⟨v11, v12, as, bs, S, rfl, sX, hR, hM, hI, hal, hgl⟩
  obtain ⟨dxR, haR⟩ := hR.ob
  refine ⟨_, rfl, a, _, _, rfl, haR, rno (by decide +kernel), a, wA, c, g, nn, ks, cs, as, S, rfl, hR, fun p H1 s1 np hG => ?_⟩
  refine ⟨_, rfl, .inl ⟨rfl, _, SqL.of hG.at_⟩, p, _, _, rfl, rfl, hG.at_, szl (by rw [List.length_map, hG.len]; omega), ?_⟩
  have s2 : Same HY (upd H1 p (.lst (as.map V.ref ++ [.int 0]))) := same_mut s1 np
  show tSeq _ _ _ _ (upd H1 p (.lst (as.map V.ref ++ [.int 0])))
  generalize upd H1 p (.lst (as.map V.ref ++ [.int 0])) = H2 at s2
  have hR2 := hR.same s2
  have hM2 := hM.same s2
  have ha2 := s2 _ _ haR
  refine ⟨_, rfl, a, _, _, rfl, ha2, a, wA, c, g, nn, ks, cs, as, S, rfl, hR2, _, rfl, d, _, rfl, hM2.get 3 (by decide +kernel) (by decide) rfl, rfl, _, rfl, ifF (by simp) ?_⟩
  refine ⟨_, rfl, a, _, _, rfl, ha2, a, wA, c, g, nn, ks, cs, as, S, rfl, hR2, _, rfl, d, _, rfl, hM2.get 4 (by decide +kernel) (by decide) rfl, (by cases S.tm <;> rfl), _, rfl, ifF (by simp) ?_⟩
  refine ⟨_, rfl, a, _, _, rfl, ha2, rno (by decide +kernel), a, wA, c, g, nn, ks, cs, as, S, rfl, hR2, fun q H3 s3 nq hG3 => ?_⟩
  have hM3 := hM2.same s3
  have hdk := dok_gs hal
  refine ⟨_, rfl, d, _, rfl, hM3.get 5 (by decide +kernel) (by decide) rfl, _, _, hG3.dp, hM3.go.dp, hdk.shaped (by decide), hdk.shaped (by decide), _, rfl, ifF (by rw [hdk.eq]; rfl) ?_⟩
  have hR3 := hR2.same s3
  refine ⟨_, rfl, a, _, _, rfl, s3 _ _ ha2, a, wA, c, g, nn, ks, cs, as, S, rfl, hR3, _, rfl, rfl, _, rfl, ifF (by simp) ?_⟩
  exact ⟨t2, _, _, _, _, _, as, bs, S, rfl, ht0, (sX.trans s2).trans s3, hR3, hM3, hI, hal, hgl⟩

end
theorem all_mk {l : PySem.W.OpenLaw} {w : World} {K : PySem.W.Frag} {h : Heap} {mg : Str → Option Value} {fa C_MeridianError C_BadArgument C_Reader C_Span f_group_of_key f_look_time f_Reader_init f_Reader_phase P_Reader_phase f_Reader_time P_Reader_time f_Reader_number P_Reader_number f_Reader_got f_Reader_push f_Reader_receive f_Reader__next_key f_Span_init f_Span_contains f_Span_is_past f__law_cell f__law_draws f__law_keys f__law_push f__law_letter f_law : Addr} (X : K.In h) (G : h.Ns mainGlobals mg) (hfa : mg "law" = some (.ref fa))
    {od_group_of_key an_group_of_key : Option Addr} {sl_group_of_key : Array (Option Value)} {oc_group_of_key kV_group_of_key dc_group_of_key pm_group_of_key cd_group_of_key ct_group_of_key : Value}
    {od_look_time an_look_time : Option Addr} {sl_look_time : Array (Option Value)} {oc_look_time kV_look_time dc_look_time pm_look_time cd_look_time ct_look_time : Value}
    {od_Reader_init an_Reader_init : Option Addr} {sl_Reader_init : Array (Option Value)} {oc_Reader_init kV_Reader_init dc_Reader_init pm_Reader_init cd_Reader_init ct_Reader_init : Value}
    {od_Reader_phase an_Reader_phase : Option Addr} {sl_Reader_phase : Array (Option Value)} {oc_Reader_phase kV_Reader_phase dc_Reader_phase pm_Reader_phase cd_Reader_phase ct_Reader_phase : Value}
    {rest_Reader_phase : List Value}
    {od_Reader_time an_Reader_time : Option Addr} {sl_Reader_time : Array (Option Value)} {oc_Reader_time kV_Reader_time dc_Reader_time pm_Reader_time cd_Reader_time ct_Reader_time : Value}
    {rest_Reader_time : List Value}
    {od_Reader_number an_Reader_number : Option Addr} {sl_Reader_number : Array (Option Value)} {oc_Reader_number kV_Reader_number dc_Reader_number pm_Reader_number cd_Reader_number ct_Reader_number : Value}
    {rest_Reader_number : List Value}
    {od_Reader_got an_Reader_got : Option Addr} {sl_Reader_got : Array (Option Value)} {oc_Reader_got kV_Reader_got dc_Reader_got pm_Reader_got cd_Reader_got ct_Reader_got : Value}
    {od_Reader_push an_Reader_push : Option Addr} {sl_Reader_push : Array (Option Value)} {oc_Reader_push kV_Reader_push dc_Reader_push pm_Reader_push cd_Reader_push ct_Reader_push : Value}
    {od_Reader_receive an_Reader_receive : Option Addr} {sl_Reader_receive : Array (Option Value)} {oc_Reader_receive kV_Reader_receive dc_Reader_receive pm_Reader_receive cd_Reader_receive ct_Reader_receive : Value}
    {od_Reader__next_key an_Reader__next_key : Option Addr} {sl_Reader__next_key : Array (Option Value)} {oc_Reader__next_key kV_Reader__next_key dc_Reader__next_key pm_Reader__next_key cd_Reader__next_key ct_Reader__next_key : Value}
    {od_Span_init an_Span_init : Option Addr} {sl_Span_init : Array (Option Value)} {oc_Span_init kV_Span_init dc_Span_init pm_Span_init cd_Span_init ct_Span_init : Value}
    {od_Span_contains an_Span_contains : Option Addr} {sl_Span_contains : Array (Option Value)} {oc_Span_contains kV_Span_contains dc_Span_contains pm_Span_contains cd_Span_contains ct_Span_contains : Value}
    {od_Span_is_past an_Span_is_past : Option Addr} {sl_Span_is_past : Array (Option Value)} {oc_Span_is_past kV_Span_is_past dc_Span_is_past pm_Span_is_past cd_Span_is_past ct_Span_is_past : Value}
    {od__law_cell an__law_cell : Option Addr} {sl__law_cell : Array (Option Value)} {oc__law_cell kV__law_cell dc__law_cell pm__law_cell cd__law_cell ct__law_cell : Value}
    {od__law_draws an__law_draws : Option Addr} {sl__law_draws : Array (Option Value)} {oc__law_draws kV__law_draws dc__law_draws pm__law_draws cd__law_draws ct__law_draws : Value}
    {od__law_keys an__law_keys : Option Addr} {sl__law_keys : Array (Option Value)} {oc__law_keys kV__law_keys dc__law_keys pm__law_keys cd__law_keys ct__law_keys : Value}
    {od__law_push an__law_push : Option Addr} {sl__law_push : Array (Option Value)} {oc__law_push kV__law_push dc__law_push pm__law_push cd__law_push ct__law_push : Value}
    {od__law_letter an__law_letter : Option Addr} {sl__law_letter : Array (Option Value)} {oc__law_letter kV__law_letter dc__law_letter pm__law_letter cd__law_letter ct__law_letter : Value}
    {od_law an_law : Option Addr} {sl_law : Array (Option Value)} {oc_law kV_law dc_law pm_law cd_law ct_law : Value}
    {tk_NEW : Tok}
    {tk_READING : Tok}
    {tk_WAITING : Tok}
    {tk_ENDED : Tok}
    (mg_MeridianError : PySem.W.nsIn K mainGlobals "MeridianError" = some (some (.ref C_MeridianError)))
    (x_MeridianError : PySem.W.excIn K C_MeridianError [.type "ValueError", .type "Exception", .type "BaseException", .type "object"] "ValueError.__new__" = true)
    (kc_MeridianError : PySem.W.keepIn K (.ref C_MeridianError) = true)
    (bp_MeridianError : PySem.W.subIn K (.ref C_MeridianError) (.type "BaseException") = some true)
    (tp_MeridianError : PySem.W.typeIn K (.ref C_MeridianError) = some (.type "type"))
    (ip_MeridianError : PySem.W.isClsIn K C_MeridianError = true)
    (ga_MeridianError : PySem.W.findIn K (.ref C_MeridianError) "__getattribute__" = some (some (.builtin "BaseException.__getattribute__")))
    (gt_MeridianError : PySem.W.findIn K (.ref C_MeridianError) "__getattr__" = some none)
    (hd_MeridianError : PySem.W.hasDictIn K C_MeridianError = true)
    (ca_MeridianError : PySem.W.findIn K (.ref C_MeridianError) "__class__" = some (some (.builtin "object.__class__")))
    (mo_MeridianError : PySem.W.mroIn K C_MeridianError (.type "object") = some true)
    (ve_MeridianError : PySem.W.subIn K (.ref C_MeridianError) (.type "ValueError") = some true)
    (u_MeridianError_MeridianError : PySem.W.subIn K (.ref C_MeridianError) (.ref C_MeridianError) = some true)
    (u_MeridianError_BadArgument : PySem.W.subIn K (.ref C_MeridianError) (.ref C_BadArgument) = some false)
    (mg_BadArgument : PySem.W.nsIn K mainGlobals "BadArgument" = some (some (.ref C_BadArgument)))
    (x_BadArgument : PySem.W.excIn K C_BadArgument [.type "ValueError", .type "Exception", .type "BaseException", .type "object"] "ValueError.__new__" = true)
    (kc_BadArgument : PySem.W.keepIn K (.ref C_BadArgument) = true)
    (bp_BadArgument : PySem.W.subIn K (.ref C_BadArgument) (.type "BaseException") = some true)
    (tp_BadArgument : PySem.W.typeIn K (.ref C_BadArgument) = some (.type "type"))
    (ip_BadArgument : PySem.W.isClsIn K C_BadArgument = true)
    (ga_BadArgument : PySem.W.findIn K (.ref C_BadArgument) "__getattribute__" = some (some (.builtin "BaseException.__getattribute__")))
    (gt_BadArgument : PySem.W.findIn K (.ref C_BadArgument) "__getattr__" = some none)
    (hd_BadArgument : PySem.W.hasDictIn K C_BadArgument = true)
    (ca_BadArgument : PySem.W.findIn K (.ref C_BadArgument) "__class__" = some (some (.builtin "object.__class__")))
    (mo_BadArgument : PySem.W.mroIn K C_BadArgument (.type "object") = some true)
    (ve_BadArgument : PySem.W.subIn K (.ref C_BadArgument) (.type "ValueError") = some true)
    (u_BadArgument_MeridianError : PySem.W.subIn K (.ref C_BadArgument) (.ref C_MeridianError) = some true)
    (u_BadArgument_BadArgument : PySem.W.subIn K (.ref C_BadArgument) (.ref C_BadArgument) = some true)
    (cn : PySem.W.specialIn K (.builtin "object.__class__") "__get__" = some (some (.builtin "getset_descriptor.__get__")))
    (ct : PySem.W.takesIn K (.builtin "object.__class__") = some true)
    (mg_Reader : PySem.W.nsIn K mainGlobals "Reader" = some (some (.ref C_Reader)))
    (pg_Reader : PySem.W.plainGet K C_Reader Str.empty = true)
    (hd_Reader : PySem.W.hasDictIn K C_Reader = true)
    (po_Reader : PySem.W.plainOver K C_Reader = true)
    (sa_Reader : PySem.W.findIn K (.ref C_Reader) "__setattr__" = some (some (.builtin "object.__setattr__")))
    (mk_Reader : PySem.W.makesIn K C_Reader = true)
    (kc_Reader : PySem.W.keepIn K (.ref C_Reader) = true)
    (ca_Reader : PySem.W.findIn K (.ref C_Reader) "__class__" = some (some (.builtin "object.__class__")))
    (mo_Reader : PySem.W.mroIn K C_Reader (.type "object") = some true)
    (na_Reader__number : PySem.W.findIn K (.ref C_Reader) "_number" = some none)
    (na_Reader__wanted : PySem.W.findIn K (.ref C_Reader) "_wanted" = some none)
    (na_Reader__cuts : PySem.W.findIn K (.ref C_Reader) "_cuts" = some none)
    (na_Reader__phase : PySem.W.findIn K (.ref C_Reader) "_phase" = some none)
    (na_Reader__time : PySem.W.findIn K (.ref C_Reader) "_time" = some none)
    (na_Reader__got : PySem.W.findIn K (.ref C_Reader) "_got" = some none)
    (mg_Span : PySem.W.nsIn K mainGlobals "Span" = some (some (.ref C_Span)))
    (pg_Span : PySem.W.plainGet K C_Span Str.empty = true)
    (hd_Span : PySem.W.hasDictIn K C_Span = true)
    (po_Span : PySem.W.plainOver K C_Span = true)
    (sa_Span : PySem.W.findIn K (.ref C_Span) "__setattr__" = some (some (.builtin "object.__setattr__")))
    (mk_Span : PySem.W.makesIn K C_Span = true)
    (kc_Span : PySem.W.keepIn K (.ref C_Span) = true)
    (ca_Span : PySem.W.findIn K (.ref C_Span) "__class__" = some (some (.builtin "object.__class__")))
    (mo_Span : PySem.W.mroIn K C_Span (.type "object") = some true)
    (na_Span_low : PySem.W.findIn K (.ref C_Span) "low" = some none)
    (na_Span_high : PySem.W.findIn K (.ref C_Span) "high" = some none)
    (a_group_of_key : PySem.W.nsIn K mainGlobals "group_of_key" = some (some (.ref f_group_of_key)))
    (l_group_of_key : K.lookup f_group_of_key = some ⟨oc_group_of_key, od_group_of_key, .func (PySem.W.fnOf "group_of_key" "group_of_key" (defArgs s_group_of_key) (defBody s_group_of_key) (defScope s_group_of_key) .none kV_group_of_key dc_group_of_key pm_group_of_key an_group_of_key cd_group_of_key ct_group_of_key), sl_group_of_key⟩)
    (c_group_of_key : PySem.W.codeIn K cd_group_of_key "group_of_key" = true)
    (k_group_of_key : PySem.W.keepIn K (.ref f_group_of_key) = true)
    (a_look_time : PySem.W.nsIn K mainGlobals "look_time" = some (some (.ref f_look_time)))
    (l_look_time : K.lookup f_look_time = some ⟨oc_look_time, od_look_time, .func (PySem.W.fnOf "look_time" "look_time" (defArgs s_look_time) (defBody s_look_time) (defScope s_look_time) .none kV_look_time dc_look_time pm_look_time an_look_time cd_look_time ct_look_time), sl_look_time⟩)
    (c_look_time : PySem.W.codeIn K cd_look_time "look_time" = true)
    (k_look_time : PySem.W.keepIn K (.ref f_look_time) = true)
    (a_Reader_init : PySem.W.findIn K (.ref C_Reader) "__init__" = some (some (.ref f_Reader_init)))
    (i_Reader_init : PySem.W.isFn K (.ref f_Reader_init) = true)
    (l_Reader_init : K.lookup f_Reader_init = some ⟨oc_Reader_init, od_Reader_init, .func (PySem.W.fnOf "__init__" "Reader.__init__" (defArgs s_Reader_init) (defBody s_Reader_init) (defScope s_Reader_init) .none kV_Reader_init dc_Reader_init pm_Reader_init an_Reader_init cd_Reader_init ct_Reader_init), sl_Reader_init⟩)
    (c_Reader_init : PySem.W.codeIn K cd_Reader_init "Reader.__init__" = true)
    (k_Reader_init : PySem.W.keepIn K (.ref f_Reader_init) = true)
    (a_Reader_phase : PySem.W.findIn K (.ref C_Reader) "phase" = some (some (.ref P_Reader_phase)))
    (pt_Reader_phase : PySem.W.specialIn K (.ref P_Reader_phase) "__get__" = some (some (.builtin "property.__get__")))
    (pk_Reader_phase : PySem.W.takesIn K (.ref P_Reader_phase) = some true)
    (pr_Reader_phase : PySem.W.recIn K P_Reader_phase "property" = some (.ref f_Reader_phase :: rest_Reader_phase))
    (l_Reader_phase : K.lookup f_Reader_phase = some ⟨oc_Reader_phase, od_Reader_phase, .func (PySem.W.fnOf "phase" "Reader.phase" (defArgs s_Reader_phase) (defBody s_Reader_phase) (defScope s_Reader_phase) .none kV_Reader_phase dc_Reader_phase pm_Reader_phase an_Reader_phase cd_Reader_phase ct_Reader_phase), sl_Reader_phase⟩)
    (c_Reader_phase : PySem.W.codeIn K cd_Reader_phase "Reader.phase" = true)
    (k_Reader_phase : PySem.W.keepIn K (.ref f_Reader_phase) = true)
    (a_Reader_time : PySem.W.findIn K (.ref C_Reader) "time" = some (some (.ref P_Reader_time)))
    (pt_Reader_time : PySem.W.specialIn K (.ref P_Reader_time) "__get__" = some (some (.builtin "property.__get__")))
    (pk_Reader_time : PySem.W.takesIn K (.ref P_Reader_time) = some true)
    (pr_Reader_time : PySem.W.recIn K P_Reader_time "property" = some (.ref f_Reader_time :: rest_Reader_time))
    (l_Reader_time : K.lookup f_Reader_time = some ⟨oc_Reader_time, od_Reader_time, .func (PySem.W.fnOf "time" "Reader.time" (defArgs s_Reader_time) (defBody s_Reader_time) (defScope s_Reader_time) .none kV_Reader_time dc_Reader_time pm_Reader_time an_Reader_time cd_Reader_time ct_Reader_time), sl_Reader_time⟩)
    (c_Reader_time : PySem.W.codeIn K cd_Reader_time "Reader.time" = true)
    (k_Reader_time : PySem.W.keepIn K (.ref f_Reader_time) = true)
    (a_Reader_number : PySem.W.findIn K (.ref C_Reader) "number" = some (some (.ref P_Reader_number)))
    (pt_Reader_number : PySem.W.specialIn K (.ref P_Reader_number) "__get__" = some (some (.builtin "property.__get__")))
    (pk_Reader_number : PySem.W.takesIn K (.ref P_Reader_number) = some true)
    (pr_Reader_number : PySem.W.recIn K P_Reader_number "property" = some (.ref f_Reader_number :: rest_Reader_number))
    (l_Reader_number : K.lookup f_Reader_number = some ⟨oc_Reader_number, od_Reader_number, .func (PySem.W.fnOf "number" "Reader.number" (defArgs s_Reader_number) (defBody s_Reader_number) (defScope s_Reader_number) .none kV_Reader_number dc_Reader_number pm_Reader_number an_Reader_number cd_Reader_number ct_Reader_number), sl_Reader_number⟩)
    (c_Reader_number : PySem.W.codeIn K cd_Reader_number "Reader.number" = true)
    (k_Reader_number : PySem.W.keepIn K (.ref f_Reader_number) = true)
    (a_Reader_got : PySem.W.findIn K (.ref C_Reader) "got" = some (some (.ref f_Reader_got)))
    (i_Reader_got : PySem.W.isFn K (.ref f_Reader_got) = true)
    (l_Reader_got : K.lookup f_Reader_got = some ⟨oc_Reader_got, od_Reader_got, .func (PySem.W.fnOf "got" "Reader.got" (defArgs s_Reader_got) (defBody s_Reader_got) (defScope s_Reader_got) .none kV_Reader_got dc_Reader_got pm_Reader_got an_Reader_got cd_Reader_got ct_Reader_got), sl_Reader_got⟩)
    (c_Reader_got : PySem.W.codeIn K cd_Reader_got "Reader.got" = true)
    (k_Reader_got : PySem.W.keepIn K (.ref f_Reader_got) = true)
    (a_Reader_push : PySem.W.findIn K (.ref C_Reader) "push" = some (some (.ref f_Reader_push)))
    (i_Reader_push : PySem.W.isFn K (.ref f_Reader_push) = true)
    (l_Reader_push : K.lookup f_Reader_push = some ⟨oc_Reader_push, od_Reader_push, .func (PySem.W.fnOf "push" "Reader.push" (defArgs s_Reader_push) (defBody s_Reader_push) (defScope s_Reader_push) .none kV_Reader_push dc_Reader_push pm_Reader_push an_Reader_push cd_Reader_push ct_Reader_push), sl_Reader_push⟩)
    (c_Reader_push : PySem.W.codeIn K cd_Reader_push "Reader.push" = true)
    (k_Reader_push : PySem.W.keepIn K (.ref f_Reader_push) = true)
    (a_Reader_receive : PySem.W.findIn K (.ref C_Reader) "receive" = some (some (.ref f_Reader_receive)))
    (i_Reader_receive : PySem.W.isFn K (.ref f_Reader_receive) = true)
    (l_Reader_receive : K.lookup f_Reader_receive = some ⟨oc_Reader_receive, od_Reader_receive, .func (PySem.W.fnOf "receive" "Reader.receive" (defArgs s_Reader_receive) (defBody s_Reader_receive) (defScope s_Reader_receive) .none kV_Reader_receive dc_Reader_receive pm_Reader_receive an_Reader_receive cd_Reader_receive ct_Reader_receive), sl_Reader_receive⟩)
    (c_Reader_receive : PySem.W.codeIn K cd_Reader_receive "Reader.receive" = true)
    (k_Reader_receive : PySem.W.keepIn K (.ref f_Reader_receive) = true)
    (a_Reader__next_key : PySem.W.findIn K (.ref C_Reader) "_next_key" = some (some (.ref f_Reader__next_key)))
    (i_Reader__next_key : PySem.W.isFn K (.ref f_Reader__next_key) = true)
    (l_Reader__next_key : K.lookup f_Reader__next_key = some ⟨oc_Reader__next_key, od_Reader__next_key, .func (PySem.W.fnOf "_next_key" "Reader._next_key" (defArgs s_Reader__next_key) (defBody s_Reader__next_key) (defScope s_Reader__next_key) .none kV_Reader__next_key dc_Reader__next_key pm_Reader__next_key an_Reader__next_key cd_Reader__next_key ct_Reader__next_key), sl_Reader__next_key⟩)
    (c_Reader__next_key : PySem.W.codeIn K cd_Reader__next_key "Reader._next_key" = true)
    (k_Reader__next_key : PySem.W.keepIn K (.ref f_Reader__next_key) = true)
    (a_Span_init : PySem.W.findIn K (.ref C_Span) "__init__" = some (some (.ref f_Span_init)))
    (i_Span_init : PySem.W.isFn K (.ref f_Span_init) = true)
    (l_Span_init : K.lookup f_Span_init = some ⟨oc_Span_init, od_Span_init, .func (PySem.W.fnOf "__init__" "Span.__init__" (defArgs s_Span_init) (defBody s_Span_init) (defScope s_Span_init) .none kV_Span_init dc_Span_init pm_Span_init an_Span_init cd_Span_init ct_Span_init), sl_Span_init⟩)
    (c_Span_init : PySem.W.codeIn K cd_Span_init "Span.__init__" = true)
    (k_Span_init : PySem.W.keepIn K (.ref f_Span_init) = true)
    (a_Span_contains : PySem.W.findIn K (.ref C_Span) "__contains__" = some (some (.ref f_Span_contains)))
    (i_Span_contains : PySem.W.isFn K (.ref f_Span_contains) = true)
    (l_Span_contains : K.lookup f_Span_contains = some ⟨oc_Span_contains, od_Span_contains, .func (PySem.W.fnOf "__contains__" "Span.__contains__" (defArgs s_Span_contains) (defBody s_Span_contains) (defScope s_Span_contains) .none kV_Span_contains dc_Span_contains pm_Span_contains an_Span_contains cd_Span_contains ct_Span_contains), sl_Span_contains⟩)
    (c_Span_contains : PySem.W.codeIn K cd_Span_contains "Span.__contains__" = true)
    (k_Span_contains : PySem.W.keepIn K (.ref f_Span_contains) = true)
    (a_Span_is_past : PySem.W.findIn K (.ref C_Span) "is_past" = some (some (.ref f_Span_is_past)))
    (i_Span_is_past : PySem.W.isFn K (.ref f_Span_is_past) = true)
    (l_Span_is_past : K.lookup f_Span_is_past = some ⟨oc_Span_is_past, od_Span_is_past, .func (PySem.W.fnOf "is_past" "Span.is_past" (defArgs s_Span_is_past) (defBody s_Span_is_past) (defScope s_Span_is_past) .none kV_Span_is_past dc_Span_is_past pm_Span_is_past an_Span_is_past cd_Span_is_past ct_Span_is_past), sl_Span_is_past⟩)
    (c_Span_is_past : PySem.W.codeIn K cd_Span_is_past "Span.is_past" = true)
    (k_Span_is_past : PySem.W.keepIn K (.ref f_Span_is_past) = true)
    (a__law_cell : PySem.W.nsIn K mainGlobals "_law_cell" = some (some (.ref f__law_cell)))
    (l__law_cell : K.lookup f__law_cell = some ⟨oc__law_cell, od__law_cell, .func (PySem.W.fnOf "_law_cell" "_law_cell" (defArgs s__law_cell) (defBody s__law_cell) (defScope s__law_cell) .none kV__law_cell dc__law_cell pm__law_cell an__law_cell cd__law_cell ct__law_cell), sl__law_cell⟩)
    (c__law_cell : PySem.W.codeIn K cd__law_cell "_law_cell" = true)
    (k__law_cell : PySem.W.keepIn K (.ref f__law_cell) = true)
    (a__law_draws : PySem.W.nsIn K mainGlobals "_law_draws" = some (some (.ref f__law_draws)))
    (l__law_draws : K.lookup f__law_draws = some ⟨oc__law_draws, od__law_draws, .func (PySem.W.fnOf "_law_draws" "_law_draws" (defArgs s__law_draws) (defBody s__law_draws) (defScope s__law_draws) .none kV__law_draws dc__law_draws pm__law_draws an__law_draws cd__law_draws ct__law_draws), sl__law_draws⟩)
    (c__law_draws : PySem.W.codeIn K cd__law_draws "_law_draws" = true)
    (k__law_draws : PySem.W.keepIn K (.ref f__law_draws) = true)
    (a__law_keys : PySem.W.nsIn K mainGlobals "_law_keys" = some (some (.ref f__law_keys)))
    (l__law_keys : K.lookup f__law_keys = some ⟨oc__law_keys, od__law_keys, .func (PySem.W.fnOf "_law_keys" "_law_keys" (defArgs s__law_keys) (defBody s__law_keys) (defScope s__law_keys) .none kV__law_keys dc__law_keys pm__law_keys an__law_keys cd__law_keys ct__law_keys), sl__law_keys⟩)
    (c__law_keys : PySem.W.codeIn K cd__law_keys "_law_keys" = true)
    (k__law_keys : PySem.W.keepIn K (.ref f__law_keys) = true)
    (a__law_push : PySem.W.nsIn K mainGlobals "_law_push" = some (some (.ref f__law_push)))
    (l__law_push : K.lookup f__law_push = some ⟨oc__law_push, od__law_push, .func (PySem.W.fnOf "_law_push" "_law_push" (defArgs s__law_push) (defBody s__law_push) (defScope s__law_push) .none kV__law_push dc__law_push pm__law_push an__law_push cd__law_push ct__law_push), sl__law_push⟩)
    (c__law_push : PySem.W.codeIn K cd__law_push "_law_push" = true)
    (k__law_push : PySem.W.keepIn K (.ref f__law_push) = true)
    (a__law_letter : PySem.W.nsIn K mainGlobals "_law_letter" = some (some (.ref f__law_letter)))
    (l__law_letter : K.lookup f__law_letter = some ⟨oc__law_letter, od__law_letter, .func (PySem.W.fnOf "_law_letter" "_law_letter" (defArgs s__law_letter) (defBody s__law_letter) (defScope s__law_letter) .none kV__law_letter dc__law_letter pm__law_letter an__law_letter cd__law_letter ct__law_letter), sl__law_letter⟩)
    (c__law_letter : PySem.W.codeIn K cd__law_letter "_law_letter" = true)
    (k__law_letter : PySem.W.keepIn K (.ref f__law_letter) = true)
    (a_law : PySem.W.nsIn K mainGlobals "law" = some (some (.ref f_law)))
    (l_law : K.lookup f_law = some ⟨oc_law, od_law, .func (PySem.W.fnOf "law" "law" (defArgs s_law) (defBody s_law) (defScope s_law) .none kV_law dc_law pm_law an_law cd_law ct_law), sl_law⟩)
    (c_law : PySem.W.codeIn K cd_law "law" = true)
    (k_law : PySem.W.keepIn K (.ref f_law) = true)
    (x0_NEW : PySem.W.nsIn K mainGlobals "NEW" = some (some (.str "new" tk_NEW)))
    (x0_READING : PySem.W.nsIn K mainGlobals "READING" = some (some (.str "reading" tk_READING)))
    (x0_WAITING : PySem.W.nsIn K mainGlobals "WAITING" = some (some (.str "waiting" tk_WAITING)))
    (x0_ENDED : PySem.W.nsIn K mainGlobals "ENDED" = some (some (.str "ended" tk_ENDED)))
    (z_len : PySem.W.nsIn K mainGlobals "len" = some none)
    (z_max : PySem.W.nsIn K mainGlobals "max" = some none)
    (z_tuple : PySem.W.nsIn K mainGlobals "tuple" = some none)
    (z_property : PySem.W.nsIn K mainGlobals "property" = some none)
    (z_list : PySem.W.nsIn K mainGlobals "list" = some none)
    (z_abs : PySem.W.nsIn K mainGlobals "abs" = some none)
    (z_int : PySem.W.nsIn K mainGlobals "int" = some none)
    (z_range : PySem.W.nsIn K mainGlobals "range" = some none)
    (z_sorted : PySem.W.nsIn K mainGlobals "sorted" = some none)
    (z_min : PySem.W.nsIn K mainGlobals "min" = some none) :
    ∃ fd : FuncData, (∀ (s : Shared) (v : Value), BindsTo s fd ⟨[v], []⟩ [("script", v)]) ∧ ∀ base : Heap, K.In base → base.Ns mainGlobals mg → FnOk l.prog w K mg base CX0 9 fa fd ["script"] (spLaw K) := by
  have e : f_law = fa := (Value.ref.inj (Option.some.inj (hfa.symm.trans (PySem.W.mg_of X G a_law)))).symm
  subst e
  let T : Env K mg := {
    c_MeridianError := C_MeridianError,
    c_BadArgument := C_BadArgument,
    a_Reader := C_Reader,
    a_Span := C_Span,
    a_group_of_key := f_group_of_key,
    d_group_of_key := _,
    F_group_of_key := fun_mk (st := s_group_of_key) l_group_of_key c_group_of_key k_group_of_key,
    b_group_of_key := (fun_mk (st := s_group_of_key) l_group_of_key c_group_of_key k_group_of_key).binds (ps := ["cuts", "key"]) fun _ _ _ _ _ _ us hl => match us, hl with | [_, _], _ => rfl,
    g_group_of_key := PySem.W.mg_of X G a_group_of_key,
    a_look_time := f_look_time,
    d_look_time := _,
    F_look_time := fun_mk (st := s_look_time) l_look_time c_look_time k_look_time,
    b_look_time := (fun_mk (st := s_look_time) l_look_time c_look_time k_look_time).binds (ps := ["span"]) fun _ _ _ _ _ _ us hl => match us, hl with | [_], _ => rfl,
    g_look_time := PySem.W.mg_of X G a_look_time,
    a_Reader_init := f_Reader_init,
    d_Reader_init := _,
    F_Reader_init := fun_mk (st := s_Reader_init) l_Reader_init c_Reader_init k_Reader_init,
    b_Reader_init := (fun_mk (st := s_Reader_init) l_Reader_init c_Reader_init k_Reader_init).binds (ps := ["self", "number", "keys", "cuts"]) fun _ _ _ _ _ _ us hl => match us, hl with | [_, _, _, _], _ => rfl,
    a_Reader_phase := f_Reader_phase,
    d_Reader_phase := _,
    F_Reader_phase := fun_mk (st := s_Reader_phase) l_Reader_phase c_Reader_phase k_Reader_phase,
    b_Reader_phase := (fun_mk (st := s_Reader_phase) l_Reader_phase c_Reader_phase k_Reader_phase).binds (ps := ["self"]) fun _ _ _ _ _ _ us hl => match us, hl with | [_], _ => rfl,
    a_Reader_time := f_Reader_time,
    d_Reader_time := _,
    F_Reader_time := fun_mk (st := s_Reader_time) l_Reader_time c_Reader_time k_Reader_time,
    b_Reader_time := (fun_mk (st := s_Reader_time) l_Reader_time c_Reader_time k_Reader_time).binds (ps := ["self"]) fun _ _ _ _ _ _ us hl => match us, hl with | [_], _ => rfl,
    a_Reader_number := f_Reader_number,
    d_Reader_number := _,
    F_Reader_number := fun_mk (st := s_Reader_number) l_Reader_number c_Reader_number k_Reader_number,
    b_Reader_number := (fun_mk (st := s_Reader_number) l_Reader_number c_Reader_number k_Reader_number).binds (ps := ["self"]) fun _ _ _ _ _ _ us hl => match us, hl with | [_], _ => rfl,
    a_Reader_got := f_Reader_got,
    d_Reader_got := _,
    F_Reader_got := fun_mk (st := s_Reader_got) l_Reader_got c_Reader_got k_Reader_got,
    b_Reader_got := (fun_mk (st := s_Reader_got) l_Reader_got c_Reader_got k_Reader_got).binds (ps := ["self"]) fun _ _ _ _ _ _ us hl => match us, hl with | [_], _ => rfl,
    a_Reader_push := f_Reader_push,
    d_Reader_push := _,
    F_Reader_push := fun_mk (st := s_Reader_push) l_Reader_push c_Reader_push k_Reader_push,
    b_Reader_push := (fun_mk (st := s_Reader_push) l_Reader_push c_Reader_push k_Reader_push).binds (ps := ["self", "span"]) fun _ _ _ _ _ _ us hl => match us, hl with | [_, _], _ => rfl,
    a_Reader_receive := f_Reader_receive,
    d_Reader_receive := _,
    F_Reader_receive := fun_mk (st := s_Reader_receive) l_Reader_receive c_Reader_receive k_Reader_receive,
    b_Reader_receive := (fun_mk (st := s_Reader_receive) l_Reader_receive c_Reader_receive k_Reader_receive).binds (ps := ["self", "letter"]) fun _ _ _ _ _ _ us hl => match us, hl with | [_, _], _ => rfl,
    a_Reader__next_key := f_Reader__next_key,
    d_Reader__next_key := _,
    F_Reader__next_key := fun_mk (st := s_Reader__next_key) l_Reader__next_key c_Reader__next_key k_Reader__next_key,
    b_Reader__next_key := (fun_mk (st := s_Reader__next_key) l_Reader__next_key c_Reader__next_key k_Reader__next_key).binds (ps := ["self"]) fun _ _ _ _ _ _ us hl => match us, hl with | [_], _ => rfl,
    a_Span_init := f_Span_init,
    d_Span_init := _,
    F_Span_init := fun_mk (st := s_Span_init) l_Span_init c_Span_init k_Span_init,
    b_Span_init := (fun_mk (st := s_Span_init) l_Span_init c_Span_init k_Span_init).binds (ps := ["self", "low", "high"]) fun _ _ _ _ _ _ us hl => match us, hl with | [_, _, _], _ => rfl,
    a_Span_contains := f_Span_contains,
    d_Span_contains := _,
    F_Span_contains := fun_mk (st := s_Span_contains) l_Span_contains c_Span_contains k_Span_contains,
    b_Span_contains := (fun_mk (st := s_Span_contains) l_Span_contains c_Span_contains k_Span_contains).binds (ps := ["self", "time"]) fun _ _ _ _ _ _ us hl => match us, hl with | [_, _], _ => rfl,
    a_Span_is_past := f_Span_is_past,
    d_Span_is_past := _,
    F_Span_is_past := fun_mk (st := s_Span_is_past) l_Span_is_past c_Span_is_past k_Span_is_past,
    b_Span_is_past := (fun_mk (st := s_Span_is_past) l_Span_is_past c_Span_is_past k_Span_is_past).binds (ps := ["self", "time"]) fun _ _ _ _ _ _ us hl => match us, hl with | [_, _], _ => rfl,
    a__law_cell := f__law_cell,
    d__law_cell := _,
    F__law_cell := fun_mk (st := s__law_cell) l__law_cell c__law_cell k__law_cell,
    b__law_cell := (fun_mk (st := s__law_cell) l__law_cell c__law_cell k__law_cell).binds (ps := ["script", "k"]) fun _ _ _ _ _ _ us hl => match us, hl with | [_, _], _ => rfl,
    g__law_cell := PySem.W.mg_of X G a__law_cell,
    a__law_draws := f__law_draws,
    d__law_draws := _,
    F__law_draws := fun_mk (st := s__law_draws) l__law_draws c__law_draws k__law_draws,
    b__law_draws := (fun_mk (st := s__law_draws) l__law_draws c__law_draws k__law_draws).binds (ps := ["cell", "many", "limit"]) fun _ _ _ _ _ _ us hl => match us, hl with | [_, _, _], _ => rfl,
    g__law_draws := PySem.W.mg_of X G a__law_draws,
    a__law_keys := f__law_keys,
    d__law_keys := _,
    F__law_keys := fun_mk (st := s__law_keys) l__law_keys c__law_keys k__law_keys,
    b__law_keys := (fun_mk (st := s__law_keys) l__law_keys c__law_keys k__law_keys).binds (ps := ["cell"]) fun _ _ _ _ _ _ us hl => match us, hl with | [_], _ => rfl,
    g__law_keys := PySem.W.mg_of X G a__law_keys,
    a__law_push := f__law_push,
    d__law_push := _,
    F__law_push := fun_mk (st := s__law_push) l__law_push c__law_push k__law_push,
    b__law_push := (fun_mk (st := s__law_push) l__law_push c__law_push k__law_push).binds (ps := ["m", "span"]) fun _ _ _ _ _ _ us hl => match us, hl with | [_, _], _ => rfl,
    g__law_push := PySem.W.mg_of X G a__law_push,
    a__law_letter := f__law_letter,
    d__law_letter := _,
    F__law_letter := fun_mk (st := s__law_letter) l__law_letter c__law_letter k__law_letter,
    b__law_letter := (fun_mk (st := s__law_letter) l__law_letter c__law_letter k__law_letter).binds (ps := ["cell", "m", "keys"]) fun _ _ _ _ _ _ us hl => match us, hl with | [_, _, _], _ => rfl,
    g__law_letter := PySem.W.mg_of X G a__law_letter,
    a_law := f_law,
    d_law := _,
    F_law := fun_mk (st := s_law) l_law c_law k_law,
    b_law := (fun_mk (st := s_law) l_law c_law k_law).binds (ps := ["script"]) fun _ _ _ _ _ _ us hl => match us, hl with | [_], _ => rfl,
    e_MeridianError := ⟨PySem.W.mg_of X G mg_MeridianError, x_MeridianError, kc_MeridianError, bp_MeridianError, tp_MeridianError, ip_MeridianError, ⟨ga_MeridianError, gt_MeridianError, bp_MeridianError, hd_MeridianError, ca_MeridianError, cn, ct, mo_MeridianError⟩, kit_ty_sub ve_MeridianError (by decide +kernel)⟩,
    u_MeridianError_MeridianError := PySem.W.exm_ref bp_MeridianError hd_MeridianError tp_MeridianError u_MeridianError_MeridianError,
    q_MeridianError_MeridianError := kit_own u_MeridianError_MeridianError u_MeridianError_MeridianError ip_MeridianError tp_MeridianError,
    u_MeridianError_BadArgument := PySem.W.exm_ref bp_BadArgument hd_BadArgument tp_BadArgument u_MeridianError_BadArgument,
    q_MeridianError_BadArgument := kit_own u_MeridianError_BadArgument u_MeridianError_MeridianError ip_BadArgument tp_BadArgument,
    e_BadArgument := ⟨PySem.W.mg_of X G mg_BadArgument, x_BadArgument, kc_BadArgument, bp_BadArgument, tp_BadArgument, ip_BadArgument, ⟨ga_BadArgument, gt_BadArgument, bp_BadArgument, hd_BadArgument, ca_BadArgument, cn, ct, mo_BadArgument⟩, kit_ty_sub ve_BadArgument (by decide +kernel)⟩,
    u_BadArgument_MeridianError := PySem.W.exm_ref bp_MeridianError hd_MeridianError tp_MeridianError u_BadArgument_MeridianError,
    q_BadArgument_MeridianError := kit_own u_BadArgument_MeridianError u_BadArgument_BadArgument ip_MeridianError tp_MeridianError,
    u_BadArgument_BadArgument := PySem.W.exm_ref bp_BadArgument hd_BadArgument tp_BadArgument u_BadArgument_BadArgument,
    q_BadArgument_BadArgument := kit_own u_BadArgument_BadArgument u_BadArgument_BadArgument ip_BadArgument tp_BadArgument,
    k_Reader := ⟨⟨pg_Reader, hd_Reader, po_Reader, sa_Reader⟩, PySem.W.mg_of X G mg_Reader, ca_Reader, cn, ct, mo_Reader⟩,
    n_Reader__number := na_Reader__number,
    n_Reader__wanted := na_Reader__wanted,
    n_Reader__cuts := na_Reader__cuts,
    n_Reader__phase := na_Reader__phase,
    n_Reader__time := na_Reader__time,
    n_Reader__got := na_Reader__got,
    M_Reader := ⟨mk_Reader, a_Reader_init, i_Reader_init, kc_Reader⟩,
    p_Reader_phase := P_Reader_phase,
    m_Reader_phase := ⟨a_Reader_phase, pt_Reader_phase, pk_Reader_phase, ⟨_, pr_Reader_phase⟩⟩,
    p_Reader_time := P_Reader_time,
    m_Reader_time := ⟨a_Reader_time, pt_Reader_time, pk_Reader_time, ⟨_, pr_Reader_time⟩⟩,
    p_Reader_number := P_Reader_number,
    m_Reader_number := ⟨a_Reader_number, pt_Reader_number, pk_Reader_number, ⟨_, pr_Reader_number⟩⟩,
    m_Reader_got := ⟨a_Reader_got, i_Reader_got, k_Reader_got⟩,
    m_Reader_push := ⟨a_Reader_push, i_Reader_push, k_Reader_push⟩,
    m_Reader_receive := ⟨a_Reader_receive, i_Reader_receive, k_Reader_receive⟩,
    m_Reader__next_key := ⟨a_Reader__next_key, i_Reader__next_key, k_Reader__next_key⟩,
    k_Span := ⟨⟨pg_Span, hd_Span, po_Span, sa_Span⟩, PySem.W.mg_of X G mg_Span, ca_Span, cn, ct, mo_Span⟩,
    n_Span_low := na_Span_low,
    n_Span_high := na_Span_high,
    M_Span := ⟨mk_Span, a_Span_init, i_Span_init, kc_Span⟩,
    m_Span_contains := ⟨a_Span_contains, i_Span_contains, k_Span_contains⟩,
    m_Span_is_past := ⟨a_Span_is_past, i_Span_is_past, k_Span_is_past⟩,
    o_NEW := _,
    k_NEW := PySem.W.mg_of X G x0_NEW,
    r_NEW := ⟨_, rfl⟩,
    o_READING := _,
    k_READING := PySem.W.mg_of X G x0_READING,
    r_READING := ⟨_, rfl⟩,
    o_WAITING := _,
    k_WAITING := PySem.W.mg_of X G x0_WAITING,
    r_WAITING := ⟨_, rfl⟩,
    o_ENDED := _,
    k_ENDED := PySem.W.mg_of X G x0_ENDED,
    r_ENDED := ⟨_, rfl⟩,
    z_len := PySem.W.mg_none_of X G z_len,
    z_max := PySem.W.mg_none_of X G z_max,
    z_tuple := PySem.W.mg_none_of X G z_tuple,
    z_property := PySem.W.mg_none_of X G z_property,
    z_list := PySem.W.mg_none_of X G z_list,
    z_abs := PySem.W.mg_none_of X G z_abs,
    z_int := PySem.W.mg_none_of X G z_int,
    z_range := PySem.W.mg_none_of X G z_range,
    z_sorted := PySem.W.mg_none_of X G z_sorted,
    z_min := PySem.W.mg_none_of X G z_min }
  exact ⟨PySem.W.fnOf "law" "law" (defArgs s_law) (defBody s_law) (defScope s_law) .none kV_law dc_law pm_law an_law cd_law ct_law, fun s v => .of_eq rfl, fun base _ _ => ok_law T⟩
theorem walk {l : PySem.W.OpenLaw} {q : Program} {loose : List Str} {XP : (Str → Option Value) → Heap → Prop} {YP : World → Heap → Prop} {d : DefRec} {K : Params → PySem.W.Frag} (hn : l.most = some 63) (hdf : d.params.defaults = [])
    (hY : ∀ (w : World) (h : Heap), YP w h → (K w.params).In h)
    (F : ∀ (w : World) (mg : Str → Option Value) (fa : Addr) (h : Heap), (K w.params).In h → h.Ns mainGlobals mg → mg d.name = some (.ref fa) →
      ∃ fd : FuncData, (∀ (s : Shared) (u : Value), BindsTo s fd ⟨[u], []⟩ [("script", u)]) ∧ ∀ base : Heap, (K w.params).In base → base.Ns mainGlobals mg → FnOk l.prog w (K w.params) mg base CX0 9 fa fd ["script"] (spLaw (K w.params))) :
    PySem.W.WalkO q loose XP YP l.row.toRowW d [] (fun f vs => PySem.call f vs) :=
  L2.walk_of (n := 63) (k := 9) (x := "script") (CX := fun _ => CX0) (sp := fun w => spLaw (K w.params)) hn (by decide) hdf ⟨rfl, by decide, by decide⟩ hY F (fun _ _ a ns hl _ hS => ⟨a, ns, rfl, hS, hl, fun _ => rfl⟩) fun _ _ _ _ _ z => z
end Dv
open PySem PySem.W PyProof.Rows in
set_option maxRecDepth 100000 in
set_option maxHeartbeats 0 in
theorem PySem.Challenge.cw_meridian_k61_reader_step_by_step_holds : PySem.Challenge.rw_meridian_k61_reader_step_by_step.Holds := by
  w_on; o_law; k_head; (case hw => w_witness2)
  k_fill
  refine Dv.walk (l := PySem.Challenge.rw_meridian_k61_reader_step_by_step) rfl rfl (fun w h Y => PySem.W.kIn_of Y) ?F
  case F =>
    intro w mg fa h KX G hmg
    refine' Dv.all_mk KX G hmg ?mg_MeridianError ?x_MeridianError ?kc_MeridianError ?bp_MeridianError ?tp_MeridianError ?ip_MeridianError ?ga_MeridianError ?gt_MeridianError ?hd_MeridianError ?ca_MeridianError ?mo_MeridianError ?ve_MeridianError ?u_MeridianError_MeridianError ?u_MeridianError_BadArgument ?mg_BadArgument ?x_BadArgument ?kc_BadArgument ?bp_BadArgument ?tp_BadArgument ?ip_BadArgument ?ga_BadArgument ?gt_BadArgument ?hd_BadArgument ?ca_BadArgument ?mo_BadArgument ?ve_BadArgument ?u_BadArgument_MeridianError ?u_BadArgument_BadArgument ?cn ?ct ?mg_Reader ?pg_Reader ?hd_Reader ?po_Reader ?sa_Reader ?mk_Reader ?kc_Reader ?ca_Reader ?mo_Reader ?na_Reader__number ?na_Reader__wanted ?na_Reader__cuts ?na_Reader__phase ?na_Reader__time ?na_Reader__got ?mg_Span ?pg_Span ?hd_Span ?po_Span ?sa_Span ?mk_Span ?kc_Span ?ca_Span ?mo_Span ?na_Span_low ?na_Span_high ?a_group_of_key ?l_group_of_key ?c_group_of_key ?k_group_of_key ?a_look_time ?l_look_time ?c_look_time ?k_look_time ?a_Reader_init ?i_Reader_init ?l_Reader_init ?c_Reader_init ?k_Reader_init ?a_Reader_phase ?pt_Reader_phase ?pk_Reader_phase ?pr_Reader_phase ?l_Reader_phase ?c_Reader_phase ?k_Reader_phase ?a_Reader_time ?pt_Reader_time ?pk_Reader_time ?pr_Reader_time ?l_Reader_time ?c_Reader_time ?k_Reader_time ?a_Reader_number ?pt_Reader_number ?pk_Reader_number ?pr_Reader_number ?l_Reader_number ?c_Reader_number ?k_Reader_number ?a_Reader_got ?i_Reader_got ?l_Reader_got ?c_Reader_got ?k_Reader_got ?a_Reader_push ?i_Reader_push ?l_Reader_push ?c_Reader_push ?k_Reader_push ?a_Reader_receive ?i_Reader_receive ?l_Reader_receive ?c_Reader_receive ?k_Reader_receive ?a_Reader__next_key ?i_Reader__next_key ?l_Reader__next_key ?c_Reader__next_key ?k_Reader__next_key ?a_Span_init ?i_Span_init ?l_Span_init ?c_Span_init ?k_Span_init ?a_Span_contains ?i_Span_contains ?l_Span_contains ?c_Span_contains ?k_Span_contains ?a_Span_is_past ?i_Span_is_past ?l_Span_is_past ?c_Span_is_past ?k_Span_is_past ?a__law_cell ?l__law_cell ?c__law_cell ?k__law_cell ?a__law_draws ?l__law_draws ?c__law_draws ?k__law_draws ?a__law_keys ?l__law_keys ?c__law_keys ?k__law_keys ?a__law_push ?l__law_push ?c__law_push ?k__law_push ?a__law_letter ?l__law_letter ?c__law_letter ?k__law_letter ?a_law ?l_law ?c_law ?k_law ?x0_NEW ?x0_READING ?x0_WAITING ?x0_ENDED ?z_len ?z_max ?z_tuple ?z_property ?z_list ?z_abs ?z_int ?z_range ?z_sorted ?z_min
    (case mg_MeridianError => k_is)
    (case mg_BadArgument => k_is)
    (case mg_Reader => k_is)
    (case mg_Span => k_is)
    (case a_group_of_key => k_is)
    (case a_look_time => k_is)
    (case a_Reader_init => k_is)
    (case a_Reader_phase => k_is)
    (case a_Reader_time => k_is)
    (case a_Reader_number => k_is)
    (case a_Reader_got => k_is)
    (case a_Reader_push => k_is)
    (case a_Reader_receive => k_is)
    (case a_Reader__next_key => k_is)
    (case a_Span_init => k_is)
    (case a_Span_contains => k_is)
    (case a_Span_is_past => k_is)
    (case a__law_cell => k_is)
    (case a__law_draws => k_is)
    (case a__law_keys => k_is)
    (case a__law_push => k_is)
    (case a__law_letter => k_is)
    (case a_law => k_is)
    (case pr_Reader_phase => k_is)
    (case pr_Reader_time => k_is)
    (case pr_Reader_number => k_is)
    (case x_MeridianError => k_exc)
    (case kc_MeridianError => k_is)
    (case bp_MeridianError => k_is)
    (case tp_MeridianError => k_is)
    (case ip_MeridianError => k_is)
    (case ga_MeridianError => k_is)
    (case gt_MeridianError => k_is)
    (case hd_MeridianError => k_is)
    (case ca_MeridianError => k_is)
    (case mo_MeridianError => k_is)
    (case ve_MeridianError => k_is)
    (case u_MeridianError_MeridianError => k_is)
    (case u_MeridianError_BadArgument => k_is)
    (case x_BadArgument => k_exc)
    (case kc_BadArgument => k_is)
    (case bp_BadArgument => k_is)
    (case tp_BadArgument => k_is)
    (case ip_BadArgument => k_is)
    (case ga_BadArgument => k_is)
    (case gt_BadArgument => k_is)
    (case hd_BadArgument => k_is)
    (case ca_BadArgument => k_is)
    (case mo_BadArgument => k_is)
    (case ve_BadArgument => k_is)
    (case u_BadArgument_MeridianError => k_is)
    (case u_BadArgument_BadArgument => k_is)
    (case cn => k_is)
    (case ct => k_is)
    (case pg_Reader => k_is)
    (case hd_Reader => k_is)
    (case po_Reader => k_is)
    (case sa_Reader => k_is)
    (case mk_Reader => k_is)
    (case kc_Reader => k_is)
    (case ca_Reader => k_is)
    (case mo_Reader => k_is)
    (case na_Reader__number => k_is)
    (case na_Reader__wanted => k_is)
    (case na_Reader__cuts => k_is)
    (case na_Reader__phase => k_is)
    (case na_Reader__time => k_is)
    (case na_Reader__got => k_is)
    (case pg_Span => k_is)
    (case hd_Span => k_is)
    (case po_Span => k_is)
    (case sa_Span => k_is)
    (case mk_Span => k_is)
    (case kc_Span => k_is)
    (case ca_Span => k_is)
    (case mo_Span => k_is)
    (case na_Span_low => k_is)
    (case na_Span_high => k_is)
    (case l_group_of_key => k_is)
    (case c_group_of_key => k_is)
    (case k_group_of_key => k_is)
    (case l_look_time => k_is)
    (case c_look_time => k_is)
    (case k_look_time => k_is)
    (case i_Reader_init => k_is)
    (case l_Reader_init => k_is)
    (case c_Reader_init => k_is)
    (case k_Reader_init => k_is)
    (case pt_Reader_phase => k_is)
    (case pk_Reader_phase => k_is)
    (case l_Reader_phase => k_is)
    (case c_Reader_phase => k_is)
    (case k_Reader_phase => k_is)
    (case pt_Reader_time => k_is)
    (case pk_Reader_time => k_is)
    (case l_Reader_time => k_is)
    (case c_Reader_time => k_is)
    (case k_Reader_time => k_is)
    (case pt_Reader_number => k_is)
    (case pk_Reader_number => k_is)
    (case l_Reader_number => k_is)
    (case c_Reader_number => k_is)
    (case k_Reader_number => k_is)
    (case i_Reader_got => k_is)
    (case l_Reader_got => k_is)
    (case c_Reader_got => k_is)
    (case k_Reader_got => k_is)
    (case i_Reader_push => k_is)
    (case l_Reader_push => k_is)
    (case c_Reader_push => k_is)
    (case k_Reader_push => k_is)
    (case i_Reader_receive => k_is)
    (case l_Reader_receive => k_is)
    (case c_Reader_receive => k_is)
    (case k_Reader_receive => k_is)
    (case i_Reader__next_key => k_is)
    (case l_Reader__next_key => k_is)
    (case c_Reader__next_key => k_is)
    (case k_Reader__next_key => k_is)
    (case i_Span_init => k_is)
    (case l_Span_init => k_is)
    (case c_Span_init => k_is)
    (case k_Span_init => k_is)
    (case i_Span_contains => k_is)
    (case l_Span_contains => k_is)
    (case c_Span_contains => k_is)
    (case k_Span_contains => k_is)
    (case i_Span_is_past => k_is)
    (case l_Span_is_past => k_is)
    (case c_Span_is_past => k_is)
    (case k_Span_is_past => k_is)
    (case l__law_cell => k_is)
    (case c__law_cell => k_is)
    (case k__law_cell => k_is)
    (case l__law_draws => k_is)
    (case c__law_draws => k_is)
    (case k__law_draws => k_is)
    (case l__law_keys => k_is)
    (case c__law_keys => k_is)
    (case k__law_keys => k_is)
    (case l__law_push => k_is)
    (case c__law_push => k_is)
    (case k__law_push => k_is)
    (case l__law_letter => k_is)
    (case c__law_letter => k_is)
    (case k__law_letter => k_is)
    (case l_law => k_is)
    (case c_law => k_is)
    (case k_law => k_is)
    (case x0_NEW => k_is)
    (case x0_READING => k_is)
    (case x0_WAITING => k_is)
    (case x0_ENDED => k_is)
    (case z_len => k_is)
    (case z_max => k_is)
    (case z_tuple => k_is)
    (case z_property => k_is)
    (case z_list => k_is)
    (case z_abs => k_is)
    (case z_int => k_is)
    (case z_range => k_is)
    (case z_sorted => k_is)
    (case z_min => k_is)
