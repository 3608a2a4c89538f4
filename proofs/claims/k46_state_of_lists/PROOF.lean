import PyProof.Rows.All
import Wide.All
import OpenK.AllK
import Wide.FinOn
import HandS.ForExc
import HandS.ForMost
import HandS.IsInst
import HandS.ExcIs
import HandS.Wide
import HandS.CallSlots
import HandS.Property
import HandS.Defaults
import HandS.MakeKwOnly
import HandS.TupAny
import HandS.LawCells
import HandS.Text
import HandS.Iter
import HandS.Dict
import HandS.More
import HandS.Small
import HandS.SetKeys
import HandS.Walk
import PySem.Challenge.RW_meridian_k46_state_of_lists
set_option Elab.async false
set_option linter.all false
set_option maxRecDepth 100000
set_option maxHeartbeats 4000000
namespace Dv
open PySem PySem.Spec PyProof.Rows L2
def top (i : Nat) : Stmt := PySem.Challenge.pw_meridian_k46_state_of_lists.main.body.getD i (.Pass ⟨0, 0, 0, 0⟩)
abbrev s_Cells_init : Stmt := (inClass (top 6) 0)
theorem sc_Cells_init : FnScope ["self"] ["self"] (defScope s_Cells_init) := ⟨rfl, rfl, rfl, by decide +kernel, rfl, by decide +kernel, by decide +kernel⟩
abbrev s_Cells_put : Stmt := (inClass (top 6) 1)
theorem sc_Cells_put : FnScope ["self", "time", "writes", "key", "_", "value"] ["self", "time", "writes"] (defScope s_Cells_put) := ⟨rfl, rfl, rfl, by decide +kernel, rfl, by decide +kernel, by decide +kernel⟩
abbrev s_Cells_last_time : Stmt := (inClass (top 6) 4)
theorem sc_Cells_last_time : FnScope ["self", "key"] ["self", "key"] (defScope s_Cells_last_time) := ⟨rfl, rfl, rfl, by decide +kernel, rfl, by decide +kernel, by decide +kernel⟩
abbrev s_Cells_versions : Stmt := (inClass (top 6) 5)
theorem sc_Cells_versions : FnScope ["self", "key"] ["self", "key"] (defScope s_Cells_versions) := ⟨rfl, rfl, rfl, by decide +kernel, rfl, by decide +kernel, by decide +kernel⟩
abbrev s_Cells_iter : Stmt := (inClass (top 6) 7)
theorem sc_Cells_iter : FnScope ["self"] ["self"] (defScope s_Cells_iter) := ⟨rfl, rfl, rfl, by decide +kernel, rfl, by decide +kernel, by decide +kernel⟩
abbrev s_Cells_contains : Stmt := (inClass (top 6) 8)
theorem sc_Cells_contains : FnScope ["self", "key"] ["self", "key"] (defScope s_Cells_contains) := ⟨rfl, rfl, rfl, by decide +kernel, rfl, by decide +kernel, by decide +kernel⟩
abbrev s_Cells_len : Stmt := (inClass (top 6) 9)
theorem sc_Cells_len : FnScope ["self"] ["self"] (defScope s_Cells_len) := ⟨rfl, rfl, rfl, by decide +kernel, rfl, by decide +kernel, by decide +kernel⟩
abbrev s_State_init : Stmt := (inClass (top 8) 0)
theorem sc_State_init : FnScope ["self"] ["self"] (defScope s_State_init) := ⟨rfl, rfl, rfl, by decide +kernel, rfl, by decide +kernel, by decide +kernel⟩
abbrev s_State_floor : Stmt := (inClass (top 8) 1)
theorem sc_State_floor : FnScope ["self"] ["self"] (defScope s_State_floor) := ⟨rfl, rfl, rfl, by decide +kernel, rfl, by decide +kernel, by decide +kernel⟩
abbrev s_State_settled : Stmt := (inClass (top 8) 2)
theorem sc_State_settled : FnScope ["self", "time", "_"] ["self"] (defScope s_State_settled) := ⟨rfl, rfl, rfl, by decide +kernel, rfl, by decide +kernel, by decide +kernel⟩
abbrev s_State_apply : Stmt := (inClass (top 8) 3)
theorem sc_State_apply : FnScope ["self", "record"] ["self", "record"] (defScope s_State_apply) := ⟨rfl, rfl, rfl, by decide +kernel, rfl, by decide +kernel, by decide +kernel⟩
abbrev s_State_held : Stmt := (inClass (top 8) 4)
theorem sc_State_held : FnScope ["self", "txn"] ["self", "txn"] (defScope s_State_held) := ⟨rfl, rfl, rfl, by decide +kernel, rfl, by decide +kernel, by decide +kernel⟩
abbrev s_State_all_held : Stmt := (inClass (top 8) 5)
theorem sc_State_all_held : FnScope ["self"] ["self"] (defScope s_State_all_held) := ⟨rfl, rfl, rfl, by decide +kernel, rfl, by decide +kernel, by decide +kernel⟩
abbrev s_State_outcome : Stmt := (inClass (top 8) 6)
theorem sc_State_outcome : FnScope ["self", "txn"] ["self", "txn"] (defScope s_State_outcome) := ⟨rfl, rfl, rfl, by decide +kernel, rfl, by decide +kernel, by decide +kernel⟩
abbrev s_State_all_outcomes : Stmt := (inClass (top 8) 7)
theorem sc_State_all_outcomes : FnScope ["self", "txn"] ["self"] (defScope s_State_all_outcomes) := ⟨rfl, rfl, rfl, by decide +kernel, rfl, by decide +kernel, by decide +kernel⟩
abbrev s_State_conflicts : Stmt := (inClass (top 8) 8)
theorem sc_State_conflicts : FnScope ["self", "reads", "writes", "written", "touched", "found", "txn", "_", "held_reads", "held_writes", "held_written", "key"] ["self", "reads", "writes"] (defScope s_State_conflicts) := ⟨rfl, rfl, rfl, by decide +kernel, rfl, by decide +kernel, by decide +kernel⟩
abbrev s_State__apply_floor : Stmt := (inClass (top 8) 11)
theorem sc_State__apply_floor : FnScope ["self", "time"] ["self", "time"] (defScope s_State__apply_floor) := ⟨rfl, rfl, rfl, by decide +kernel, rfl, by decide +kernel, by decide +kernel⟩
abbrev s_State__apply_prepare : Stmt := (inClass (top 8) 12)
theorem sc_State__apply_prepare : FnScope ["self", "record", "_", "txn", "time", "lead", "reads", "writes"] ["self", "record"] (defScope s_State__apply_prepare) := ⟨rfl, rfl, rfl, by decide +kernel, rfl, by decide +kernel, by decide +kernel⟩
abbrev s_State__apply_outcome : Stmt := (inClass (top 8) 13)
theorem sc_State__apply_outcome : FnScope ["self", "txn", "time"] ["self", "txn", "time"] (defScope s_State__apply_outcome) := ⟨rfl, rfl, rfl, by decide +kernel, rfl, by decide +kernel, by decide +kernel⟩
abbrev s_state_of : Stmt := (top 9)
theorem sc_state_of : FnScope ["records", "state", "record"] ["records"] (defScope s_state_of) := ⟨rfl, rfl, rfl, by decide +kernel, rfl, by decide +kernel, by decide +kernel⟩
abbrev s__have_common : Stmt := (top 10)
theorem sc__have_common : FnScope ["keys", "others", "key"] ["keys", "others"] (defScope s__have_common) := ⟨rfl, rfl, rfl, by decide +kernel, rfl, by decide +kernel, by decide +kernel⟩
abbrev s__law_cell : Stmt := (top 12)
theorem sc__law_cell : FnScope ["script", "k"] ["script", "k"] (defScope s__law_cell) := ⟨rfl, rfl, rfl, by decide +kernel, rfl, by decide +kernel, by decide +kernel⟩
abbrev s__law_draws : Stmt := (top 13)
theorem sc__law_draws : FnScope ["cell", "many", "limit", "out", "k", "mixed"] ["cell", "many", "limit"] (defScope s__law_draws) := ⟨rfl, rfl, rfl, by decide +kernel, rfl, by decide +kernel, by decide +kernel⟩
abbrev s__law_keys : Stmt := (top 14)
theorem sc__law_keys : FnScope ["cell", "letters", "numbers", "keys", "k", "head", "out", "key"] ["cell"] (defScope s__law_keys) := ⟨rfl, rfl, rfl, by decide +kernel, rfl, by decide +kernel, by decide +kernel⟩
abbrev s__law_like : Stmt := (top 15)
theorem sc__law_like : FnScope ["actual", "due", "k"] ["actual", "due"] (defScope s__law_like) := ⟨rfl, rfl, rfl, by decide +kernel, rfl, by decide +kernel, by decide +kernel⟩
abbrev s__law_store : Stmt := (top 18)
theorem sc__law_store : FnScope ["rows", "time", "writes", "pair"] ["rows", "time", "writes"] (defScope s__law_store) := ⟨rfl, rfl, rfl, by decide +kernel, rfl, by decide +kernel, by decide +kernel⟩
abbrev s__law_writes : Stmt := (top 19)
theorem sc__law_writes : FnScope ["numbers", "keys", "writes", "j", "number"] ["numbers", "keys"] (defScope s__law_writes) := ⟨rfl, rfl, rfl, by decide +kernel, rfl, by decide +kernel, by decide +kernel⟩
abbrev s__law_meets : Stmt := (top 20)
theorem sc__law_meets : FnScope ["reads", "writes", "held", "theirs", "own", "pair", "key"] ["reads", "writes", "held"] (defScope s__law_meets) := ⟨rfl, rfl, rfl, by decide +kernel, rfl, by decide +kernel, by decide +kernel⟩
abbrev s__law_clash : Stmt := (top 21)
theorem sc__law_clash : FnScope ["plain", "reads", "writes", "txn"] ["plain", "reads", "writes"] (defScope s__law_clash) := ⟨rfl, rfl, rfl, by decide +kernel, rfl, by decide +kernel, by decide +kernel⟩
abbrev s__law_settled : Stmt := (top 23)
theorem sc__law_settled : FnScope ["plain", "txn"] ["plain"] (defScope s__law_settled) := ⟨rfl, rfl, rfl, by decide +kernel, rfl, by decide +kernel, by decide +kernel⟩
abbrev s__law_deal : Stmt := (top 24)
theorem sc__law_deal : FnScope ["plain", "record", "txn", "time"] ["plain", "record"] (defScope s__law_deal) := ⟨rfl, rfl, rfl, by decide +kernel, rfl, by decide +kernel, by decide +kernel⟩
abbrev s__law_near : Stmt := (top 25)
theorem sc__law_near : FnScope ["numbers", "keys", "floor", "scale", "txn", "some", "time", "kind", "reads", "j"] ["numbers", "keys", "floor", "scale"] (defScope s__law_near) := ⟨rfl, rfl, rfl, by decide +kernel, rfl, by decide +kernel, by decide +kernel⟩
abbrev s__law_state_right : Stmt := (top 26)
theorem sc__law_state_right : FnScope ["state", "plain", "keys", "txns", "txn", "key"] ["state", "plain", "keys", "txns"] (defScope s__law_state_right) := ⟨rfl, rfl, rfl, by decide +kernel, rfl, by decide +kernel, by decide +kernel⟩
abbrev s_law : Stmt := (top 27)
theorem sc_law : FnScope ["script", "keys", "plain", "single", "records", "doubled", "k", "record", "due", "state", "given", "other", "actual"] ["script"] (defScope s_law) := ⟨rfl, rfl, rfl, by decide +kernel, rfl, by decide +kernel, by decide +kernel⟩
theorem kit_own {K : PySem.W.Frag} {C E : Addr} {b : Bool} (h : PySem.W.subIn K (.ref C) (.ref E) = some b) (hs : PySem.W.subIn K (.ref C) (.ref C) = some true) (hc : PySem.W.isClsIn K E = true) (ht : PySem.W.typeIn K (.ref E) = some (.type "type")) :
    PySem.W.kitOne K (.ref C) (.ref E) = some b := by
  unfold PySem.W.kitOne
  by_cases e : (Value.ref C == Value.ref E) = true
  · rw [if_pos e]
    have e' : Value.ref C = Value.ref E := by simpa using e
    rw [← e', hs] at h
    exact h
  · rw [if_neg e]
    show (if ((PySem.W.clsIn K E).isSome && PySem.W.typeIn K (.ref E) == some (.type "type")) = true then PySem.W.subIn K (.ref C) (.ref E) else none) = some b
    have hc' : (PySem.W.clsIn K E).isSome = true := hc
    rw [hc', ht, if_pos (by rfl)]
    exact h
theorem kit_ty_sub {K : PySem.W.Frag} {C : Addr} {T : String} {b : Bool} (h : PySem.W.subIn K (.ref C) (.type T) = some b) (hm : PySem.W.kitMeta T = true) : PySem.W.kitOne K (.ref C) (.type T) = some b := by
  unfold PySem.W.kitOne
  rw [if_neg (by simp)]
  show (if PySem.W.kitMeta T = true then PySem.W.subIn K (.ref C) (.type T) else none) = some b
  rw [if_pos hm]
  exact h
/-- isinstance(e, c), isinstance(e, (c1, ..)): e the exception that the suite holds, of whatever class -/
def rIsG (K : PySem.W.Frag) (cls : Value) (d : Option Addr) (a : Addr) : List V → Hp → VK → Prop := fun xs H Q => ∃ (D : Addr) (b : Bool), cls = .ref D ∧ d = none ∧ ExcC K D ∧
  ((∃ (c : V) (cv : Value), xs = [.ref a, c] ∧ ClsV c cv ∧ PySem.W.kitOne K (.ref D) cv = some b ∧ Q (.bl b) H) ∨
   ∃ (tp : Addr) (cs : List V) (us : List Value), xs = [.ref a, .ref tp] ∧ H tp = some (.tup cs) ∧ Paired ClsV cs us ∧ PySem.W.kitAny K (.ref D) us = some b ∧ Q (.bl b) H)
theorem call_isG {X : Cx} {a : Addr} {cls : Value} {d : Option Addr} {oe : Obj} {pn : List (Addr × Obj)} (hz : Zc cls d oe) (hf : ∃ vs, oe.data = .fields vs) : CallR (X.suite a ((a, oe) :: pn)) (.builtin "isinstance") (rIsG X.K cls d a) := by
  intro pins s σ H xs us Q I r h
  obtain ⟨D, b, rfl, rfl, C, h⟩ := h
  rcases h with ⟨c, cv, rfl, hcv, e, q⟩ | ⟨tp, cs, ws, rfl, hT, k, e, q⟩
  · exact call_isE C hz hf pins s σ H _ us Q I r ⟨c, cv, b, rfl, fun u ru => hcv.eq ru, e, q⟩
  · obtain ⟨u1, u2, rfl, r1, r2⟩ := vals2 r
    cases (show u2 = Value.ref tp from r2)
    cases (show u1 = Value.ref a from r1)
    obtain ⟨hget, _⟩ := I.pin (a, oe) (List.mem_append.mpr (.inl List.mem_cons_self))
    obtain ⟨vs, hv⟩ := hf
    have J : PySem.W.InstAt s.heap a oe D none := by
      obtain ⟨oc, od, oda, osl⟩ := oe
      obtain ⟨h1, h2⟩ := hz
      dsimp only at h1 h2 hv
      subst h1 h2 hv
      exact ⟨hget, rfl, rfl, trivial⟩
    obtain ⟨_, its, rv, o, h1, h2, n, h3⟩ := (show ObjOk X.prog X.w H s.heap tp (.tup cs) from I.hok tp _ hT)
    have e3 := ClsV.all k rv
    subst e3
    obtain ⟨oc, od, dt, sl⟩ := o
    simp only at h2 h3
    subst h2 h3
    exact PySem.W.kia_tup (PySem.W.handS_kitx_exc C.hg C.hk C.hs C.hd C.ha C.hn C.ht C.hm) I.kIn J h1 e (fun z => nomatch z) fun tk => ⟨.bl b, H, I.kept (t' := tk) fun _ _ z => z, rfl, q⟩
/-- the room that == of data wants -/
theorem hu64_of {A : Around} {k : Nat} (hr : Room k A) : A.units + 64 < cLine := Nat.lt_of_le_of_lt (Nat.le_refl _) hr.units
theorem same_new {H : Hp} {p : Addr} {o : HO} (h : H p = none) : Same H (upd H p o) := fun b x e => by
  rw [upd_ne (ne_of_none e h)]
  exact e
/-- an object unknown before may change -/
theorem same_mut {H H1 : Hp} {p : Addr} {o : HO} (s : Same H H1) (h : H p = none) : Same H (upd H1 p o) := fun b x e => by
  rw [upd_ne (ne_of_none e h)]
  exact s b x e
theorem sql_new {K : PySem.W.Frag} {H : Hp} {p : Addr} {xs : List V} : SqL K (upd H p (.lst xs)) p xs := SqL.of upd_same
theorem same_dp {K : PySem.W.Frag} {H H' : Hp} (s : Same H H') : ∀ (d : PyData) (v : V), Dp K H v d → Dp K H' v d := by
  intro d v h
  exact Dp.rec (motive_1 := fun v d _ => Dp K H' v d) (motive_2 := fun vs ds _ => DpAll K H' vs ds) .non (fun b => .bl b) (fun i => .int i) (fun x => .str x)
    (fun h1 _ ih => .lst (s.seq h1) ih) (fun h1 _ ih => .tup (by rcases h1 with h1 | h1
                                                                 · rcases h1 with h1 | ⟨o, h1⟩
                                                                   · exact .inl (.inl (s _ _ h1))
                                                                   · exact .inl (.inr ⟨o, s _ _ h1⟩)
                                                                 · exact .inr h1) ih) .nil (fun _ _ h1 h2 => .cons h1 h2) h
/-! lists of ints as data -/
def dInts (ns : List Int) : PyData := .list (ns.map PyData.int)
theorem dp_all_ints {K : PySem.W.Frag} {H : Hp} : ∀ ns : List Int, DpAll K H (ns.map V.int) (ns.map PyData.int)
  | [] => .nil
  | n :: r => .cons (.int n) (dp_all_ints r)
theorem dp_ints {K : PySem.W.Frag} {H : Hp} {a : Addr} {ns : List Int} (h : SqL K H a (ns.map V.int)) : Dp K H (.ref a) (dInts ns) := .lst h (dp_all_ints ns)
theorem eqv_ints : ∀ ns ms : List Int, PyData.eqvAll (ns.map PyData.int) (ms.map PyData.int) = decide (ns = ms)
  | [], [] => rfl
  | [], _ :: _ => rfl
  | _ :: _, [] => rfl
  | n :: r, m :: t => by
    show (PyData.eqv (.int n) (.int m) && PyData.eqvAll (r.map PyData.int) (t.map PyData.int)) = _
    rw [eqv_ints r t]
    show ((n == m) && decide (r = t)) = _
    by_cases h : n = m <;> by_cases h2 : r = t <;> simp [h, h2]
theorem eqv_dInts (ns ms : List Int) : PyData.eqv (dInts ns) (dInts ms) = decide (ns = ms) := eqv_ints ns ms
theorem canLay_ints : ∀ ns : List Int, (PyData.list (ns.map PyData.int)).canLay0 = true → True := fun _ _ => trivial
theorem ifT {c : Bool} {A B : Prop} (hc : c = true) (h : A) : if c = true then A else B := by
  rw [if_pos hc]
  exact h
theorem ifF {c : Bool} {A B : Prop} (hc : c = false) (h : B) : if c = true then A else B := by
  rw [hc, if_neg Bool.false_ne_true]
  exact h
/-- both ways of an if over a decided comparison -/
theorem iteD {p : Prop} [Decidable p] {A B : Prop} (h1 : p → A) (h2 : ¬ p → B) : if decide p = true then A else B := by
  by_cases h : p
  · rw [if_pos (decide_eq_true h)]
    exact h1 h
  · rw [if_neg (by simpa using h)]
    exact h2 h
theorem iteN {p : Prop} [Decidable p] {A B : Prop} (h1 : ¬ p → A) (h2 : p → B) : if (!decide p) = true then A else B := by
  by_cases h : p
  · rw [if_neg (by simpa using h)]
    exact h2 h
  · rw [if_pos (by simpa using h)]
    exact h1 h
theorem yes_if {σ : L2.St} {H : Hp} {A B : Hp → Prop} (h : A H) : tYes σ H (fun b H3 => if b = true then A H3 else B H3) := by
  show (if true = true then A H else B H)
  rw [if_pos rfl]
  exact h
abbrev Li (H : Hp) (p : Addr) (ns : List Int) : Prop := H p = some (.lst (ns.map V.int))
theorem szl {n : Nat} (h : n ≤ 1000000) : n < sizeLine := Nat.lt_of_le_of_lt h (by decide)
theorem szle {n : Nat} (h : n ≤ 1000000) : n ≤ sizeLine := Nat.le_of_lt (szl h)
theorem mem_int {ns : List Int} {i : Nat} {x : V} (hx : (ns.map V.int)[i]? = some x) : ∃ n, ns[i]? = some n ∧ x = V.int n := by
  rw [List.getElem?_map] at hx
  cases e : ns[i]? with
  | none => rw [e] at hx; cases hx
  | some u => rw [e] at hx; exact ⟨u, rfl, (Option.some.inj hx).symm⟩
theorem li_push {H : Hp} {p : Addr} {ns : List Int} {n : Int} : Li (upd H p (.lst (ns.map V.int ++ [V.int n]))) p (ns ++ [n]) := by
  show upd _ _ _ _ = _
  rw [upd_same, List.map_append]
  rfl
theorem take_succ {α : Type} {l : List α} {i : Nat} {x : α} (h : l[i]? = some x) : l.take (i + 1) = l.take i ++ [x] := by
  rw [List.take_add_one, h]
  rfl
/-! slices of lists -/
theorem cutV_map {α : Type} (f : α → V) (xs : List α) (lo hi : Option Int) : cutV (xs.map f) lo hi = ((xs.drop (HT.sIx xs.length 0 lo)).take (HT.sIx xs.length xs.length hi - HT.sIx xs.length 0 lo)).map f := by
  unfold cutV
  rw [List.length_map, List.map_take, List.map_drop]
theorem cut_to (xs : List V) (k : Nat) : cutV xs none (some (k : Int)) = xs.take k := by
  unfold cutV
  rw [HT.sIx_none, HT.sIx_nat, List.drop_zero, Nat.sub_zero]
  by_cases h : k ≤ xs.length
  · rw [Nat.min_eq_left h]
  · rw [Nat.min_eq_right (by omega), List.take_of_length_le (Nat.le_refl _), List.take_of_length_le (by omega)]
theorem cut_from (xs : List V) (k : Nat) : cutV xs (some (k : Int)) none = xs.drop k := by
  unfold cutV
  rw [HT.sIx_none, HT.sIx_nat]
  by_cases h : k ≤ xs.length
  · rw [Nat.min_eq_left h]
    exact List.take_of_length_le (by rw [List.length_drop]; exact Nat.le_refl _)
  · rw [Nat.min_eq_right (by omega), List.drop_of_length_le (by omega), List.take_nil, List.drop_of_length_le (by omega)]
theorem cut_fromto (xs : List V) (i j : Nat) : cutV xs (some (i : Int)) (some (j : Int)) = (xs.drop i).take (j - i) := by
  unfold cutV
  rw [HT.sIx_nat, HT.sIx_nat]
  by_cases h : i ≤ xs.length
  · rw [Nat.min_eq_left h]
    by_cases h2 : j ≤ xs.length
    · rw [Nat.min_eq_left h2]
    · rw [Nat.min_eq_right (by omega), List.take_of_length_le (by rw [List.length_drop]; exact Nat.le_refl _), List.take_of_length_le (by rw [List.length_drop]; omega)]
  · rw [show xs.drop (min i xs.length) = [] from List.drop_of_length_le (by omega), List.take_nil, List.drop_of_length_le (by omega), List.take_nil]
theorem sIx_neg (n d k : Nat) (h : 0 < k) : HT.sIx n d (some (-(k : Int))) = n - k := by
  show (if -(k : Int) < 0 then (-(k : Int) + (n : Int)).toNat else _) = _
  rw [if_pos (by omega)]
  omega
theorem cut_ton (xs : List V) (k : Nat) (h : 0 < k) : cutV xs none (some (-(k : Int))) = xs.take (xs.length - k) := by
  unfold cutV
  rw [HT.sIx_none, sIx_neg _ _ _ h, List.drop_zero, Nat.sub_zero]
theorem cut_fromn (xs : List V) (k : Nat) (h : 0 < k) : cutV xs (some (-(k : Int))) none = xs.drop (xs.length - k) := by
  unfold cutV
  rw [HT.sIx_none, sIx_neg _ _ _ h]
  exact List.take_of_length_le (by rw [List.length_drop]; exact Nat.le_refl _)

/-! own rules: methods and makings whose errors depend on the slots (for a try), keywords, an own __contains__ -/
section
variable {X : Cx} {CX : CXT} {k n : Nat} {C f : Addr} {fd : FuncData} {ps ks : List Str} {sp : Sp} {E : L2.St → XK} {dvs : List V} {ds : List Value} {o e : Expr} {es : List Expr} {kws : List Keyword} {m x : Str} {p apos pos : Pos} {ta : TE} {t tk : TA}
  {g : List Value → List Value → List Value} {gV : List V → List V → List V}
theorem run_at {pins : List (Addr × Obj)} {σ : L2.St} {H : Hp} {s : Shared} {Q : VK} {E : XK} {us0 us : List Value} {kw : List (Str × Value)} {vs : List V} (F : FnOk X.prog X.w X.K X.mg X.base CX k f fd ps sp) (hr : Room k X.A) (hx : PassesAt CX X σ E)
    (I : Inv X pins σ H s) (hb : BindsTo s fd ⟨us0, kw⟩ (ps.zip us)) (r : Vals vs us) (h : sp vs H Q E) : wpAny (model X.prog X.w) X.A (call (.ref f) us0 kw) (EP X pins σ Q) X.xe s := by
  refine wpAny_call (codeAny_mono (F.run X.A X.stack s H ⟨us0, kw⟩ us vs Q E hr I.env0 hb r h) fun r s' hq => ?_)
  cases r with
  | error er => exact hx pins H s er s' I hq
  | ok fl => cases fl with
    | ret u => exact I.after hq
    | next => exact hq.elim
    | brk => exact hq.elim
    | cont => exact hq.elim
/-- o.m(e, .., k = v, ..) -/
def tMA (C : Addr) (m : Str) (n l : Nat) (sp : Sp) (gV : List V → List V → List V) (E : L2.St → XK) (ta : TE) (t tk : TA) : TE := fun σ H Q => ta σ H fun x H1 => ∃ a dx fs, x = .ref a ∧ H1 a = some (.ins C dx fs) ∧ fs.lookup m = none ∧
  t σ H1 fun vs H2 => tk σ H2 fun zs H3 => vs.length = n ∧ zs.length = l ∧ sp (gV (x :: vs) zs) H3 Q (E σ)
theorem pe_mK {pl : Sem Bool} (he : PE X o ta) (c : Cls X.K C) (hm : Meth X.K C m f) (F : FnOk X.prog X.w X.K X.mg X.base CX k f fd ps sp) (hr : Room k X.A) (hb : KBn X.K fd ps (n + 1) ks g gV) (hx : ∀ σ, PassesAt CX X σ (E σ)) (ha : PA X (e :: es) t) (hkw : PK X kws tk)
    (hall : (backToKw pos (keywordEach kws X.env)).all (·.1.isSome) = true := by rfl) (hks : (backToKw pos (keywordEach kws X.env)).filterMap (·.1) = ks := by rfl)
    (hst : starEach (e :: es) X.env = (false, eval e X.env) :: starEach es X.env := by rfl) (hpl : ((backTo pos (starEach (e :: es) X.env)).any (·.1) || (backToKw pos (keywordEach kws X.env)).any (·.1.isNone)) = false := by rfl)
    (ht : eval (.Call (.Attribute o m apos) (e :: es) kws pos) X.env = (do
      let ov ← eval o X.env
      standAt apos.atName
      let (f, first) ← holding [ov] (getMethod ov m pl)
      callWith pos f first (backTo pos (starEach (e :: es) X.env)) (backToKw pos (keywordEach kws X.env))) := by rfl) :
    PE X (.Call (.Attribute o m apos) (e :: es) kws pos) (tMA C m n ks.length sp gV E ta t tk) := by
  refine ⟨fun pins s σ H Q I h => PySem.W.methodCall_KW (pl := pl) (thn (he.run pins s σ H _ I h) fun u s1 ⟨x, H1, I1, rx, a, dx, fs, ex, ea, l, q⟩ => ?_) ht⟩
  subst ex
  obtain rfl : u = Value.ref a := rx
  refine getmeth_ok I1 ea c hm l (PySem.W.callWith_KW (first := [.ref a]) (h₀ := X.base) I.ok.mod.kin hm.kp hall (thn (ha.run pos pins s1 σ H1 _ I1 q) fun us s2 ⟨vs, H2, I2, r, q2⟩ => ?_) hpl hst)
  refine thn (hkw.run pos pins s2 σ H2 _ I2 q2) fun ws s3 ⟨zs, H3, I3, rz, l1, l2, q3⟩ => ⟨I3.kIn, ?_⟩
  rw [hks]
  have r1 : Vals (V.ref a :: vs) (Value.ref a :: us) := .cons rfl r
  exact run_at F hr (hx σ) I3 (hb.to s3 (Value.ref a :: us) ws I3.kIn (by rw [List.length_cons, ← r.length, l1]) (rz.length.symm.trans l2)) (hb.rel r1 rz) q3
theorem pe_mK0 {pl : Sem Bool} (he : PE X o ta) (c : Cls X.K C) (hm : Meth X.K C m f) (F : FnOk X.prog X.w X.K X.mg X.base CX k f fd ps sp) (hr : Room k X.A) (hb : KBn X.K fd ps 1 ks g gV) (hx : ∀ σ, PassesAt CX X σ (E σ)) (hkw : PK X kws tk)
    (hall : (backToKw pos (keywordEach kws X.env)).all (·.1.isSome) = true := by rfl) (hks : (backToKw pos (keywordEach kws X.env)).filterMap (·.1) = ks := by rfl)
    (hpl : ((backTo pos (starEach [] X.env)).any (·.1) || (backToKw pos (keywordEach kws X.env)).any (·.1.isNone)) = false := by rfl)
    (ht : eval (.Call (.Attribute o m apos) [] kws pos) X.env = (do
      let ov ← eval o X.env
      standAt apos.atName
      let (f, first) ← holding [ov] (getMethod ov m pl)
      callWith pos f first (backTo pos (starEach [] X.env)) (backToKw pos (keywordEach kws X.env))) := by rfl) :
    PE X (.Call (.Attribute o m apos) [] kws pos) (tMA C m 0 ks.length sp gV E ta tNil tk) := by
  refine ⟨fun pins s σ H Q I h => PySem.W.methodCall_KW (pl := pl) (thn (he.run pins s σ H _ I h) fun u s1 ⟨x, H1, I1, rx, a, dx, fs, ex, ea, l, q⟩ => ?_) ht⟩
  subst ex
  obtain rfl : u = Value.ref a := rx
  refine getmeth_ok I1 ea c hm l (PySem.W.callWith_KW0 (first := [.ref a]) (h₀ := X.base) I.ok.mod.kin hm.kp hall (thn (hkw.run pos pins s1 σ H1 _ I1 q) fun ws s3 ⟨zs, H3, I3, rz, l1, l2, q3⟩ => ⟨I3.kIn, ?_⟩) hpl)
  rw [hks]
  have r1 : Vals ([V.ref a]) ([Value.ref a]) := .cons rfl .nil
  exact run_at F hr (hx σ) I3 (hb.to s3 [Value.ref a] ws I3.kIn rfl (rz.length.symm.trans l2)) (hb.rel r1 rz) q3
/-- o.m(e, ..), the wish of errors by the slots -/
def tMS (C : Addr) (m : Str) (sp : Sp) (dvs : List V) (E : L2.St → XK) (ta : TE) (t : TA) : TE := fun σ H Q => ta σ H fun x H1 => ∃ a dx fs, x = .ref a ∧ H1 a = some (.ins C dx fs) ∧ fs.lookup m = none ∧ t σ H1 fun vs H2 => sp (x :: (vs ++ dvs)) H2 Q (E σ)
theorem pe_mS {pl : Sem Bool} (he : PE X o ta) (c : Cls X.K C) (hm : Meth X.K C m f) (F : FnOk X.prog X.w X.K X.mg X.base CX k f fd ps sp) (hr : Room k X.A) (hb : Binds X.K fd ps ds) (hd : Vals dvs ds) (hx : ∀ σ, PassesAt CX X σ (E σ)) (ha : PA X (e :: es) t)
    (hst : starEach (e :: es) X.env = (false, eval e X.env) :: starEach es X.env := by rfl) (hpl : (backTo pos (starEach es X.env)).any (·.1) = false := by rfl)
    (ht : eval (.Call (.Attribute o m apos) (e :: es) [] pos) X.env = (do
      let ov ← eval o X.env
      standAt apos.atName
      let (f, first) ← holding [ov] (getMethod ov m pl)
      callWith pos f first (backTo pos (starEach (e :: es) X.env)) (backToKw pos (keywordEach [] X.env))) := by rfl) :
    PE X (.Call (.Attribute o m apos) (e :: es) [] pos) (tMS C m sp dvs E ta t) := by
  refine ⟨fun pins s σ H Q I h => PySem.W.methodCall_KW (pl := pl) (thn (he.run pins s σ H _ I h) fun u s1 ⟨x, H1, I1, rx, a, dx, fs, ex, ea, l, q⟩ => ?_) ht⟩
  subst ex
  obtain rfl : u = Value.ref a := rx
  refine getmeth_ok I1 ea c hm l (PySem.W.callWith_K (first := [.ref a]) (h₀ := X.base) I.ok.mod.kin hm.kp (thn (ha.run pos pins s1 σ H1 _ I1 q) fun us s2 ⟨vs, H2, I2, r, q2⟩ => ⟨I2.kIn, ?_⟩) hst hpl)
  have r2 : Vals (V.ref a :: (vs ++ dvs)) (Value.ref a :: us ++ ds) := .cons rfl (r.append hd)
  have hl : (Value.ref a :: us ++ ds).length = ps.length := by rw [← r2.length]; exact F.len _ _ _ _ q2
  exact run_at (us0 := Value.ref a :: us) F hr (hx σ) I2 (hb s2 (Value.ref a :: us) I2.kIn hl) r2 q2
theorem pe_mS0 {pl : Sem Bool} (he : PE X o ta) (c : Cls X.K C) (hm : Meth X.K C m f) (F : FnOk X.prog X.w X.K X.mg X.base CX k f fd ps sp) (hr : Room k X.A) (hb : Binds X.K fd ps ds) (hd : Vals dvs ds) (hx : ∀ σ, PassesAt CX X σ (E σ))
    (ht : eval (.Call (.Attribute o m apos) [] [] pos) X.env = (do
      let ov ← eval o X.env
      standAt apos.atName
      let (f, first) ← holding [ov] (getMethod ov m pl)
      callWith pos f first (backTo pos (starEach [] X.env)) (backToKw pos (keywordEach [] X.env))) := by rfl) :
    PE X (.Call (.Attribute o m apos) [] [] pos) (tMS C m sp dvs E ta tNil) := by
  refine ⟨fun pins s σ H Q I h => PySem.W.methodCall_KW (pl := pl) (thn (he.run pins s σ H _ I h) fun u s1 ⟨x, H1, I1, rx, a, dx, fs, ex, ea, l, q⟩ => ?_) ht⟩
  subst ex
  obtain rfl : u = Value.ref a := rx
  have r2 : Vals (V.ref a :: ([] ++ dvs)) (Value.ref a :: [] ++ ds) := .cons rfl hd
  have hl : (Value.ref a :: [] ++ ds).length = ps.length := by rw [← r2.length]; exact F.len _ _ _ _ q
  refine getmeth_ok I1 ea c hm l (PySem.W.callWith_K0 (first := [.ref a]) I1.kIn hm.kp (run_at (us0 := [Value.ref a]) F hr (hx σ) I1 (hb s1 [Value.ref a] I1.kIn hl) r2 q))
/-- C(e, ..), the wish of errors by the slots -/
def tKS (C : Addr) (sp : Sp) (dvs : List V) (E : L2.St → XK) (t : TA) : TE := fun σ H Q => t σ H fun vs H1 => ∀ x dx, H1 x = none → H1 dx = none → dx ≠ x →
  sp (.ref x :: (vs ++ dvs)) (upd (upd H1 dx (.own x)) x (.ins C dx [])) (fun v H2 => v = .non ∧ Q (.ref x) H2) (E σ)
theorem pe_kS (M : Mk X.K C f) (F : FnOk X.prog X.w X.K X.mg X.base CX k f fd ps sp) (hr : Room (k + 1) X.A) (hg : Gl X x) (hm : X.mg x = some (.ref C)) (hb : Binds X.K fd ps ds) (hd : Vals dvs ds) (hx : ∀ σ, PassesAt CX X σ (E σ)) (ha : PA X (e :: es) t)
    (hdb : (x == ("__debug__" : Str)) = false := by decide) (he : starEach (e :: es) X.env = (false, eval e X.env) :: starEach es X.env := by rfl) (hpl : (backTo pos (starEach es X.env)).any (·.1) = false := by rfl) :
    PE X (.Call (.Name x p) (e :: es) [] pos) (tKS C sp dvs E t) := by
  refine ⟨fun pins s σ H Q I h => wpAny_Call_Name_kw (ld_glob I hg hm (PySem.W.callWith_K (h₀ := X.base) I.ok.mod.kin M.kp (thn (ha.run pos pins s σ H _ I h) fun us s1 ⟨vs, H1, I1, r, q⟩ => ⟨I1.kIn, ?_⟩) he hpl) hdb)⟩
  have hq := q (s1.heap.objs.size + 1) s1.heap.objs.size (I1.hok.fresh (Nat.le_succ _)) (I1.hok.fresh (Nat.le_refl _)) (Nat.ne_of_lt (Nat.lt_succ_self _))
  have I2 := Inv.made (C := C) I1
  have r2 : Vals (V.ref (s1.heap.objs.size + 1) :: (vs ++ dvs)) (Value.ref (s1.heap.objs.size + 1) :: us ++ ds) := .cons rfl (r.append hd)
  have hl : (Value.ref (s1.heap.objs.size + 1) :: us ++ ds).length = ps.length := by rw [← r2.length]; exact F.len _ _ _ _ hq
  refine wpAny_call (make_map (f := f) I1.kIn M.makes M.init (beq_iff_eq.mp M.fn) (codeAny_mono (F.run _ X.stack _ _ ⟨Value.ref (s1.heap.objs.size + 1) :: us, []⟩ (Value.ref (s1.heap.objs.size + 1) :: us ++ ds) _ _ (E σ) (hr.make C us [])
    (I2.env0.make C us []) (hb _ (Value.ref (s1.heap.objs.size + 1) :: us) I2.kIn hl) r2 hq) fun r s' hz => ?_))
  cases r with
  | error er => exact hx σ pins _ _ er s' I2 hz
  | ok fl => cases fl with
    | ret u =>
      obtain ⟨v, H', I3, rv, ev, q3⟩ := I2.after hz
      subst ev
      exact ⟨rv, ⟨V.ref (s1.heap.objs.size + 1), H', I3, rfl, q3⟩⟩
    | next => exact hz.elim
    | brk => exact hz.elim
    | cont => exact hz.elim
theorem passAll {X : Cx} (σ : L2.St) : PassesAt (L2.CX X.prog X.w) X σ E0 := fun pins H s er s' I h => passL pins σ H s er s' I h
/-- y in o, o of a class with its own __contains__ -/
def rInOwn (C : Addr) (sp : Sp) (E : XK) (neg : Bool) : R2 := fun y x H Q => ∃ a dx fs, x = .ref a ∧ H a = some (.ins C dx fs) ∧ sp [.ref a, y] H (fun v H' => ∃ b : Bool, v = .bl b ∧ Q (.bl (b != neg)) H') E
theorem has_own {pins : List (Addr × Obj)} {σ : L2.St} {H : Hp} {s : Shared} {E : XK} {a dx : Addr} {fs : List (Str × V)} {y : V} {v : Value} {Q : Bool → Hp → Prop} (c : Cls X.K C) (hm : Meth X.K C "__contains__" f) (F : FnOk X.prog X.w X.K X.mg X.base CX k f fd ps sp) (hr : Room k X.A)
    (hb : Binds X.K fd ps []) (hx : Passes CX X E) (I : Inv X pins σ H s) (ea : H a = some (.ins C dx fs)) (ry : RelV y v) (h : sp [.ref a, y] H (fun z H' => ∃ b : Bool, z = .bl b ∧ Q b H') E) :
    wpAny (model X.prog X.w) X.A (contains (.ref a) v) (fun b s' => ∃ H', Inv X pins σ H' s' ∧ Q b H') X.xe s := by
  obtain ⟨mA, O, _⟩ := ins_get I.hok ea
  obtain ⟨od, J, _⟩ := O.look
  unfold contains
  refine wpAny_holding (wpAny_bind (wpAny_bind (J.type.here ((PySem.W.looks_findIn I.kIn hm.at_).here ?_))))
  rw [if_neg (by simp)]
  refine wpAny_bind (PySem.W.unlessNone_K I.kIn J hm.at_ hm.fn (wpAny_mono (run_fn (us := [.ref a, v]) (vs := [.ref a, y]) F hr hb .nil hx I (.cons rfl (.cons ry .nil)) h) (fun u s' hu => ?_) fun _ _ z => z))
  obtain ⟨z, H', I', rz, b, rfl, q⟩ := hu
  obtain rfl : u = Value.bool b := rz
  exact wpAny_truthy_bool ⟨H', I', q⟩
theorem op_inOwn {E : XK} (c : Cls X.K C) (hm : Meth X.K C "__contains__" f) (F : FnOk X.prog X.w X.K X.mg X.base CX k f fd ps sp) (hr : Room k X.A) (hb : Binds X.K fd ps []) (hx : Passes CX X E) : OpR X (compareOp .In) (rInOwn C sp E false) := by
  intro pins s σ H y x v u Q I ry rx h
  obtain ⟨a, dx, fs, rfl, ea, h⟩ := h
  obtain rfl : u = Value.ref a := rx
  refine wpAny_bind (wpAny_mono (has_own (Q := fun b H' => Q (.bl b) H') c hm F hr hb hx I ea ry (by simpa using h)) (fun b s' hz => ?_) fun _ _ z => z)
  obtain ⟨H', I', q⟩ := hz
  exact wpAny_pure ⟨.bl b, H', I', rfl, q⟩
theorem op_notInOwn {E : XK} (c : Cls X.K C) (hm : Meth X.K C "__contains__" f) (F : FnOk X.prog X.w X.K X.mg X.base CX k f fd ps sp) (hr : Room k X.A) (hb : Binds X.K fd ps []) (hx : Passes CX X E) : OpR X (compareOp .NotIn) (rInOwn C sp E true) := by
  intro pins s σ H y x v u Q I ry rx h
  obtain ⟨a, dx, fs, rfl, ea, h⟩ := h
  obtain rfl : u = Value.ref a := rx
  refine wpAny_bind (wpAny_mono (has_own (Q := fun b H' => Q (.bl (!b)) H') c hm F hr hb hx I ea ry (by simpa using h)) (fun b s' hz => ?_) fun _ _ z => z)
  obtain ⟨H', I', q⟩ := hz
  exact wpAny_pure ⟨.bl (!b), H', I', rfl, q⟩
end
/-! the same rules with K named (in comprehensions and trys the context is a bound one) -/
section
variable {X : Cx} {K : PySem.W.Frag}
theorem pe_fldK {e : Expr} {ta : TE} {f : Str} {pos : Pos} (h : X.K = K) (he : PE X e ta) (hb : attributeBase e f X.env (eval e X.env) = eval e X.env) : PE X (.Attribute e f pos) (tFld K ta f) := h ▸ pe_fld he hb
theorem ixK {r : PySem.W.Frag → V → V → Hp → VK → Prop} (h : X.K = K) (q : IxR X (r X.K)) : IxR X (r K) := h ▸ q
theorem slK {r : PySem.W.Frag → V → Option Int → Option Int → Hp → VK → Prop} (h : X.K = K) (q : SlR X (r X.K)) : SlR X (r K) := h ▸ q
theorem opK {f : Value → Value → Sem Value} {r : PySem.W.Frag → R2} (h : X.K = K) (q : OpR X f (r X.K)) : OpR X f (r K) := h ▸ q
theorem callK {v : Value} {r : PySem.W.Frag → List V → Hp → VK → Prop} (h : X.K = K) (q : CallR X v (r X.K)) : CallR X v (r K) := h ▸ q
def rLenK (K : PySem.W.Frag) : List V → Hp → VK → Prop := fun xs H Q => ∃ x n, xs = [x] ∧ LenV K x H n ∧ Q (.int n) H
def rListK (K : PySem.W.Frag) : List V → Hp → VK → Prop := fun xs H Q => ∃ p ys, xs = [.ref p] ∧ (SqL K H p ys ∨ SqT K H p ys) ∧ ∀ l, H l = none → Q (.ref l) (upd H l (.lst ys))
end
/-- what the top says of an own class without errors -/
structure ClsT (K : PySem.W.Frag) (mg : Str → Option Value) (nm : Str) (C : Addr) : Prop where
  cl : Cls K C
  mgC : mg nm = some (.ref C)
  ha : PySem.W.findIn K (.ref C) "__class__" = some (some (.builtin "object.__class__"))
  hn : PySem.W.specialIn K (.builtin "object.__class__") "__get__" = some (some (.builtin "getset_descriptor.__get__"))
  ht : PySem.W.takesIn K (.builtin "object.__class__") = some true
  hm : PySem.W.mroIn K C (.type "object") = some true
theorem kit_self {K : PySem.W.Frag} {t : Value} (h : (t == t) = true) : PySem.W.kitOne K t t = some true := by
  unfold PySem.W.kitOne
  rw [if_pos h]
theorem ClsT.ty {K : PySem.W.Frag} {mg : Str → Option Value} {nm : Str} {C : Addr} (c : ClsT K mg nm C) {H : Hp} {a dx : Addr} {fs : List (Str × V)} (e : H a = some (.ins C dx fs)) : TyX K H (.ref a) (.ref C) := .base (.ins e c.cl c.ha c.hn c.ht c.hm)
/-! one rule or another, by the proof's choice -/
theorem pe_either {X : Cx} {e : Expr} {t1 t2 : TE} (h1 : PE X e t1) (h2 : PE X e t2) : PE X e (fun σ H Q => t1 σ H Q ∨ t2 σ H Q) := ⟨fun pins s σ H Q I h => h.elim (h1.run pins s σ H Q I) (h2.run pins s σ H Q I)⟩
def iSeq (K : PySem.W.Frag) (tl : TE) : TI := fun σ H R => iList K tl σ H R ∨ iTup K tl σ H R
theorem pi_seq {X : Cx} {tg l : Expr} {tl : TE} (h : PE X l tl) : PI X tg l (iSeq X.K tl) := ⟨fun pins s σ H R I h' => h'.elim ((pi_list h).run pins s σ H R I) ((pi_tup h).run pins s σ H R I)⟩
theorem hu_of {A : Around} {k : Nat} (hr : Room k A) : A.units + 1 < cLine := by
  have := hr.un
  omega

/-- a text times a small number -/
def repS (z : Str) (n : Nat) : Str := ⟨List.foldl (fun x y => x ++ y) #[] (List.replicate n z.cps)⟩
theorem repS_one (z : Str) : repS z 1 = z := by
  show (⟨#[] ++ z.cps⟩ : Str) = z
  rw [Array.empty_append]
theorem foldl_empty : ∀ n : Nat, List.foldl (fun (x y : Array Nat) => x ++ y) #[] (List.replicate n #[]) = #[]
  | 0 => rfl
  | n + 1 => by
    rw [List.replicate_succ, List.foldl_cons]
    show List.foldl _ (#[] ++ #[]) _ = _
    rw [Array.empty_append]
    exact foldl_empty n
theorem repS_nil {z : Str} (h : z.length = 0) (n : Nat) : repS z n = z := by
  have e : z.cps = #[] := Array.eq_empty_of_size_eq_zero h
  obtain ⟨c⟩ := z
  have e : c = #[] := e
  subst e
  show (⟨List.foldl _ #[] (List.replicate n #[])⟩ : Str) = _
  rw [foldl_empty]
theorem foldl_size (c : Array Nat) : ∀ (n : Nat) (a : Array Nat), (List.foldl (fun (x y : Array Nat) => x ++ y) a (List.replicate n c)).size = a.size + n * c.size
  | 0, a => by
    rw [Nat.zero_mul]
    rfl
  | n + 1, a => by
    rw [List.replicate_succ, List.foldl_cons, foldl_size c n, Array.size_append, Nat.succ_mul]
    omega
theorem repS_len (z : Str) (n : Nat) : (repS z n).length = n * z.length := by
  show (List.foldl (fun (x y : Array Nat) => x ++ y) #[] (List.replicate n z.cps)).size = _
  rw [foldl_size]
  show 0 + n * z.cps.size = n * z.cps.size
  omega
theorem op_mul_str {X : Cx} : OpR X (binaryOp .Mult) (fun x y H Q => ∃ (z : Str) (k : Int), x = .str z ∧ y = .int k ∧ 0 ≤ k ∧ k ≤ 1000 ∧ z.length ≤ 1000 ∧ Q (.str (repS z k.toNat)) H) := by
  intro pins s σ H x y v u Q I rx ry h
  obtain ⟨z, k, rfl, rfl, h0, h1, hl, q⟩ := h
  obtain ⟨t, rfl⟩ : ∃ t, v = Value.str z t := rx
  obtain ⟨t2, rfl⟩ : ∃ t2, u = Value.int k t2 := ry
  have hzn : z.length * k.toNat ≤ 1000000 := by
    have := Nat.mul_le_mul hl (show k.toNat ≤ 1000 by omega)
    omega
  have hzk : (z.length : Int) * k ≤ 1000000 := by
    have e : ((k.toNat : Nat) : Int) = k := by omega
    rw [← e]
    have h := Int.ofNat_le.mpr hzn
    rw [Int.natCast_mul] at h
    exact h
  have hrl : (repS z k.toNat).length ≤ sizeLine := by
    rw [repS_len, Nat.mul_comm]
    exact Nat.le_of_lt (Nat.lt_of_le_of_lt hzn (by decide))
  refine PySem.P.mul_str (by rw [decide_eq_false (by omega), decide_eq_false (by omega)]; rfl) (fun c _ => ?_) (fun _ _ => ?_) ?_
  · have : (z.length : Int) ≤ (2 ^ 63 - 1) / k := Int.le_ediv_of_mul_le (by omega) (by omega)
    omega
  · exact decide_eq_false (Nat.not_lt.mpr (Nat.le_of_lt (Nat.lt_of_le_of_lt hzn (by decide))))
  · by_cases c : k < 1
    · rw [if_pos c]
      have e : k = 0 := by omega
      subst e
      exact ⟨by decide, V.str Str.empty, H, I.tok _, ⟨_, rfl⟩, q⟩
    · rw [if_neg c]
      by_cases c2 : (k == 1 || z.length == 0) = true
      · rw [if_pos c2]
        have e : repS z k.toNat = z := by
          rcases Bool.or_eq_true_iff.mp c2 with e | e
          · have : k = 1 := by simpa using e
            rw [this]
            exact repS_one z
          · exact repS_nil (by simpa using e) _
        rw [e] at q
        exact ⟨V.str z, H, I, ⟨_, rfl⟩, q⟩
      · rw [if_neg c2]
        exact ⟨hrl, V.str (repS z k.toNat), H, I.tok _, ⟨_, rfl⟩, q⟩

structure ExcT (K : PySem.W.Frag) (mg : Str → Option Value) (nm : Str) (C : Addr) : Prop where
  gC : mg nm = some (.ref C)
  xP : PySem.W.excIn K C [.type "ValueError", .type "Exception", .type "BaseException", .type "object"] "ValueError.__new__" = true
  kC : PySem.W.keepIn K (.ref C) = true
  bP : PySem.W.subIn K (.ref C) (.type "BaseException") = some true
  tP : PySem.W.typeIn K (.ref C) = some (.type "type")
  iP : PySem.W.isClsIn K C = true
  cP : ExcC K C
  vP : PySem.W.kitOne K (.ref C) (.type "ValueError") = some true
structure Env (K : PySem.W.Frag) (mg : Str → Option Value) where
  c_MeridianError : Addr
  c_BadArgument : Addr
  c_Refused : Addr
  a_Cells : Addr
  a_State : Addr
  a_Cells_init : Addr
  d_Cells_init : FuncData
  a_Cells_put : Addr
  d_Cells_put : FuncData
  a_Cells_last_time : Addr
  d_Cells_last_time : FuncData
  a_Cells_versions : Addr
  d_Cells_versions : FuncData
  a_Cells_iter : Addr
  d_Cells_iter : FuncData
  a_Cells_contains : Addr
  d_Cells_contains : FuncData
  a_Cells_len : Addr
  d_Cells_len : FuncData
  a_State_init : Addr
  d_State_init : FuncData
  a_State_floor : Addr
  d_State_floor : FuncData
  a_State_settled : Addr
  d_State_settled : FuncData
  a_State_apply : Addr
  d_State_apply : FuncData
  a_State_held : Addr
  d_State_held : FuncData
  a_State_all_held : Addr
  d_State_all_held : FuncData
  a_State_outcome : Addr
  d_State_outcome : FuncData
  a_State_all_outcomes : Addr
  d_State_all_outcomes : FuncData
  a_State_conflicts : Addr
  d_State_conflicts : FuncData
  a_State__apply_floor : Addr
  d_State__apply_floor : FuncData
  a_State__apply_prepare : Addr
  d_State__apply_prepare : FuncData
  a_State__apply_outcome : Addr
  d_State__apply_outcome : FuncData
  a_state_of : Addr
  d_state_of : FuncData
  a__have_common : Addr
  d__have_common : FuncData
  a__law_cell : Addr
  d__law_cell : FuncData
  a__law_draws : Addr
  d__law_draws : FuncData
  a__law_keys : Addr
  d__law_keys : FuncData
  a__law_like : Addr
  d__law_like : FuncData
  a__law_store : Addr
  d__law_store : FuncData
  a__law_writes : Addr
  d__law_writes : FuncData
  a__law_meets : Addr
  d__law_meets : FuncData
  a__law_clash : Addr
  d__law_clash : FuncData
  a__law_settled : Addr
  d__law_settled : FuncData
  a__law_deal : Addr
  d__law_deal : FuncData
  a__law_near : Addr
  d__law_near : FuncData
  a__law_state_right : Addr
  d__law_state_right : FuncData
  a_law : Addr
  d_law : FuncData
  F_Cells_init : Fun K "__init__" "Cells.__init__" s_Cells_init a_Cells_init d_Cells_init
  b_Cells_init : Binds K d_Cells_init ["self"] []
  F_Cells_put : Fun K "put" "Cells.put" s_Cells_put a_Cells_put d_Cells_put
  b_Cells_put : Binds K d_Cells_put ["self", "time", "writes"] []
  F_Cells_last_time : Fun K "last_time" "Cells.last_time" s_Cells_last_time a_Cells_last_time d_Cells_last_time
  b_Cells_last_time : Binds K d_Cells_last_time ["self", "key"] []
  F_Cells_versions : Fun K "versions" "Cells.versions" s_Cells_versions a_Cells_versions d_Cells_versions
  b_Cells_versions : Binds K d_Cells_versions ["self", "key"] []
  F_Cells_iter : Fun K "__iter__" "Cells.__iter__" s_Cells_iter a_Cells_iter d_Cells_iter
  b_Cells_iter : Binds K d_Cells_iter ["self"] []
  F_Cells_contains : Fun K "__contains__" "Cells.__contains__" s_Cells_contains a_Cells_contains d_Cells_contains
  b_Cells_contains : Binds K d_Cells_contains ["self", "key"] []
  F_Cells_len : Fun K "__len__" "Cells.__len__" s_Cells_len a_Cells_len d_Cells_len
  b_Cells_len : Binds K d_Cells_len ["self"] []
  F_State_init : Fun K "__init__" "State.__init__" s_State_init a_State_init d_State_init
  b_State_init : Binds K d_State_init ["self"] []
  F_State_floor : Fun K "floor" "State.floor" s_State_floor a_State_floor d_State_floor
  b_State_floor : Binds K d_State_floor ["self"] []
  F_State_settled : Fun K "settled" "State.settled" s_State_settled a_State_settled d_State_settled
  b_State_settled : Binds K d_State_settled ["self"] []
  F_State_apply : Fun K "apply" "State.apply" s_State_apply a_State_apply d_State_apply
  b_State_apply : Binds K d_State_apply ["self", "record"] []
  F_State_held : Fun K "held" "State.held" s_State_held a_State_held d_State_held
  b_State_held : Binds K d_State_held ["self", "txn"] []
  F_State_all_held : Fun K "all_held" "State.all_held" s_State_all_held a_State_all_held d_State_all_held
  b_State_all_held : Binds K d_State_all_held ["self"] []
  F_State_outcome : Fun K "outcome" "State.outcome" s_State_outcome a_State_outcome d_State_outcome
  b_State_outcome : Binds K d_State_outcome ["self", "txn"] []
  F_State_all_outcomes : Fun K "all_outcomes" "State.all_outcomes" s_State_all_outcomes a_State_all_outcomes d_State_all_outcomes
  b_State_all_outcomes : Binds K d_State_all_outcomes ["self"] []
  F_State_conflicts : Fun K "conflicts" "State.conflicts" s_State_conflicts a_State_conflicts d_State_conflicts
  b_State_conflicts : Binds K d_State_conflicts ["self", "reads", "writes"] []
  F_State__apply_floor : Fun K "_apply_floor" "State._apply_floor" s_State__apply_floor a_State__apply_floor d_State__apply_floor
  b_State__apply_floor : Binds K d_State__apply_floor ["self", "time"] []
  F_State__apply_prepare : Fun K "_apply_prepare" "State._apply_prepare" s_State__apply_prepare a_State__apply_prepare d_State__apply_prepare
  b_State__apply_prepare : Binds K d_State__apply_prepare ["self", "record"] []
  F_State__apply_outcome : Fun K "_apply_outcome" "State._apply_outcome" s_State__apply_outcome a_State__apply_outcome d_State__apply_outcome
  b_State__apply_outcome : Binds K d_State__apply_outcome ["self", "txn", "time"] []
  F_state_of : Fun K "state_of" "state_of" s_state_of a_state_of d_state_of
  b_state_of : Binds K d_state_of ["records"] []
  g_state_of : mg "state_of" = some (.ref a_state_of)
  F__have_common : Fun K "_have_common" "_have_common" s__have_common a__have_common d__have_common
  b__have_common : Binds K d__have_common ["keys", "others"] []
  g__have_common : mg "_have_common" = some (.ref a__have_common)
  F__law_cell : Fun K "_law_cell" "_law_cell" s__law_cell a__law_cell d__law_cell
  b__law_cell : Binds K d__law_cell ["script", "k"] []
  g__law_cell : mg "_law_cell" = some (.ref a__law_cell)
  F__law_draws : Fun K "_law_draws" "_law_draws" s__law_draws a__law_draws d__law_draws
  b__law_draws : Binds K d__law_draws ["cell", "many", "limit"] []
  g__law_draws : mg "_law_draws" = some (.ref a__law_draws)
  F__law_keys : Fun K "_law_keys" "_law_keys" s__law_keys a__law_keys d__law_keys
  b__law_keys : Binds K d__law_keys ["cell"] []
  g__law_keys : mg "_law_keys" = some (.ref a__law_keys)
  F__law_like : Fun K "_law_like" "_law_like" s__law_like a__law_like d__law_like
  b__law_like : Binds K d__law_like ["actual", "due"] []
  g__law_like : mg "_law_like" = some (.ref a__law_like)
  F__law_store : Fun K "_law_store" "_law_store" s__law_store a__law_store d__law_store
  b__law_store : Binds K d__law_store ["rows", "time", "writes"] []
  g__law_store : mg "_law_store" = some (.ref a__law_store)
  F__law_writes : Fun K "_law_writes" "_law_writes" s__law_writes a__law_writes d__law_writes
  b__law_writes : Binds K d__law_writes ["numbers", "keys"] []
  g__law_writes : mg "_law_writes" = some (.ref a__law_writes)
  F__law_meets : Fun K "_law_meets" "_law_meets" s__law_meets a__law_meets d__law_meets
  b__law_meets : Binds K d__law_meets ["reads", "writes", "held"] []
  g__law_meets : mg "_law_meets" = some (.ref a__law_meets)
  F__law_clash : Fun K "_law_clash" "_law_clash" s__law_clash a__law_clash d__law_clash
  b__law_clash : Binds K d__law_clash ["plain", "reads", "writes"] []
  g__law_clash : mg "_law_clash" = some (.ref a__law_clash)
  F__law_settled : Fun K "_law_settled" "_law_settled" s__law_settled a__law_settled d__law_settled
  b__law_settled : Binds K d__law_settled ["plain"] []
  g__law_settled : mg "_law_settled" = some (.ref a__law_settled)
  F__law_deal : Fun K "_law_deal" "_law_deal" s__law_deal a__law_deal d__law_deal
  b__law_deal : Binds K d__law_deal ["plain", "record"] []
  g__law_deal : mg "_law_deal" = some (.ref a__law_deal)
  F__law_near : Fun K "_law_near" "_law_near" s__law_near a__law_near d__law_near
  b__law_near : Binds K d__law_near ["numbers", "keys", "floor", "scale"] []
  g__law_near : mg "_law_near" = some (.ref a__law_near)
  F__law_state_right : Fun K "_law_state_right" "_law_state_right" s__law_state_right a__law_state_right d__law_state_right
  b__law_state_right : Binds K d__law_state_right ["state", "plain", "keys", "txns"] []
  g__law_state_right : mg "_law_state_right" = some (.ref a__law_state_right)
  F_law : Fun K "law" "law" s_law a_law d_law
  b_law : Binds K d_law ["script"] []
  e_MeridianError : ExcT K mg "MeridianError" c_MeridianError
  u_MeridianError_MeridianError : PySem.W.exmOne K (.ref c_MeridianError) (.ref c_MeridianError) = some true
  q_MeridianError_MeridianError : PySem.W.kitOne K (.ref c_MeridianError) (.ref c_MeridianError) = some true
  u_MeridianError_BadArgument : PySem.W.exmOne K (.ref c_MeridianError) (.ref c_BadArgument) = some false
  q_MeridianError_BadArgument : PySem.W.kitOne K (.ref c_MeridianError) (.ref c_BadArgument) = some false
  u_MeridianError_Refused : PySem.W.exmOne K (.ref c_MeridianError) (.ref c_Refused) = some false
  q_MeridianError_Refused : PySem.W.kitOne K (.ref c_MeridianError) (.ref c_Refused) = some false
  e_BadArgument : ExcT K mg "BadArgument" c_BadArgument
  u_BadArgument_MeridianError : PySem.W.exmOne K (.ref c_BadArgument) (.ref c_MeridianError) = some true
  q_BadArgument_MeridianError : PySem.W.kitOne K (.ref c_BadArgument) (.ref c_MeridianError) = some true
  u_BadArgument_BadArgument : PySem.W.exmOne K (.ref c_BadArgument) (.ref c_BadArgument) = some true
  q_BadArgument_BadArgument : PySem.W.kitOne K (.ref c_BadArgument) (.ref c_BadArgument) = some true
  u_BadArgument_Refused : PySem.W.exmOne K (.ref c_BadArgument) (.ref c_Refused) = some false
  q_BadArgument_Refused : PySem.W.kitOne K (.ref c_BadArgument) (.ref c_Refused) = some false
  e_Refused : ExcT K mg "Refused" c_Refused
  u_Refused_MeridianError : PySem.W.exmOne K (.ref c_Refused) (.ref c_MeridianError) = some true
  q_Refused_MeridianError : PySem.W.kitOne K (.ref c_Refused) (.ref c_MeridianError) = some true
  u_Refused_BadArgument : PySem.W.exmOne K (.ref c_Refused) (.ref c_BadArgument) = some false
  q_Refused_BadArgument : PySem.W.kitOne K (.ref c_Refused) (.ref c_BadArgument) = some false
  u_Refused_Refused : PySem.W.exmOne K (.ref c_Refused) (.ref c_Refused) = some true
  q_Refused_Refused : PySem.W.kitOne K (.ref c_Refused) (.ref c_Refused) = some true
  k_Cells : ClsT K mg "Cells" a_Cells
  n_Cells__versions : NoAttr K a_Cells "_versions"
  M_Cells : Mk K a_Cells a_Cells_init
  m_Cells_put : Meth K a_Cells "put" a_Cells_put
  m_Cells_last_time : Meth K a_Cells "last_time" a_Cells_last_time
  m_Cells_versions : Meth K a_Cells "versions" a_Cells_versions
  m_Cells_iter : Meth K a_Cells "__iter__" a_Cells_iter
  m_Cells_contains : Meth K a_Cells "__contains__" a_Cells_contains
  m_Cells_len : Meth K a_Cells "__len__" a_Cells_len
  k_State : ClsT K mg "State" a_State
  n_State_cells : NoAttr K a_State "cells"
  n_State__floor : NoAttr K a_State "_floor"
  n_State__held : NoAttr K a_State "_held"
  n_State__outcomes : NoAttr K a_State "_outcomes"
  M_State : Mk K a_State a_State_init
  p_State_floor : Addr
  m_State_floor : PropOf K a_State "floor" p_State_floor a_State_floor
  p_State_settled : Addr
  m_State_settled : PropOf K a_State "settled" p_State_settled a_State_settled
  m_State_apply : Meth K a_State "apply" a_State_apply
  m_State_held : Meth K a_State "held" a_State_held
  m_State_all_held : Meth K a_State "all_held" a_State_all_held
  m_State_outcome : Meth K a_State "outcome" a_State_outcome
  m_State_all_outcomes : Meth K a_State "all_outcomes" a_State_all_outcomes
  m_State_conflicts : Meth K a_State "conflicts" a_State_conflicts
  m_State__apply_floor : Meth K a_State "_apply_floor" a_State__apply_floor
  m_State__apply_prepare : Meth K a_State "_apply_prepare" a_State__apply_prepare
  m_State__apply_outcome : Meth K a_State "_apply_outcome" a_State__apply_outcome
  z_list : mg "list" = none
  z_iter : mg "iter" = none
  z_len : mg "len" = none
  z_property : mg "property" = none
  z_min : mg "min" = none
  z_sorted : mg "sorted" = none
  z_max : mg "max" = none
  z_abs : mg "abs" = none
  z_int : mg "int" = none
  z_range : mg "range" = none
  z_isinstance : mg "isinstance" = none
  z_bool : mg "bool" = none
  z_str : mg "str" = none
  z_all : mg "all" = none
  z_tuple : mg "tuple" = none
  z_any : mg "any" = none
section
variable {P : Program} {w : World} {K : PySem.W.Frag} {mg : Str → Option Value} {base : Heap}
--PART /work/steering/wip/tools/pre.lean


--PART /work/steering/wip/tools/own.lean


--PART /work/steering/wip/parts/rets.lean

--PART /work/steering/wip/parts/num.lean
/-! ### base 128 -/
def vint (n : Int) : List Int := if n < 128 then [n] else (n % 128 + 128) :: vint (n / 128)
termination_by n.toNat
decreasing_by omega
theorem vint_lt {n : Int} (h : n < 128) : vint n = [n] := by rw [vint, if_pos h]
theorem vint_ge {n : Int} (h : ¬ n < 128) : vint n = (n % 128 + 128) :: vint (n / 128) := by rw [vint, if_neg h]
def NB : Int := 128 ^ 100
theorem vint_len : ∀ (k : Nat) (n : Int), n < 128 ^ (k + 1) → (vint n).length ≤ k + 1
  | 0, n, h => by
    have h' : n < 128 := by simpa using h
    rw [vint_lt h']
    exact Nat.le_refl _
  | k + 1, n, h => by
    by_cases c : n < 128
    · rw [vint_lt c]
      show 1 ≤ _
      omega
    · rw [vint_ge c, List.length_cons]
      have := vint_len k (n / 128) (by
        have e : (128 : Int) ^ (k + 1 + 1) = 128 ^ (k + 1) * 128 := Int.pow_succ ..
        rw [e] at h
        exact Int.ediv_lt_of_lt_mul (by decide) h)
      omega
theorem vint_len100 {n : Int} (h : n < NB) : (vint n).length ≤ 100 := vint_len 99 n h
theorem vint_ne (n : Int) : vint n ≠ [] := by
  by_cases c : n < 128
  · rw [vint_lt c]; simp
  · rw [vint_ge c]; simp
theorem vint_pos (n : Int) : 1 ≤ (vint n).length := by
  have := vint_ne n
  cases e : vint n with
  | nil => exact absurd e this
  | cons a r => simp
theorem vint_byte : ∀ (k : Nat) (n : Int), n < 128 ^ (k + 1) → 0 ≤ n → ∀ b ∈ vint n, 0 ≤ b ∧ b < 256
  | 0, n, h, h0, b, hb => by
    have h' : n < 128 := by simpa using h
    rw [vint_lt h'] at hb
    have : b = n := by simpa using hb
    omega
  | k + 1, n, h, h0, b, hb => by
    by_cases c : n < 128
    · rw [vint_lt c] at hb
      have : b = n := by simpa using hb
      omega
    · rw [vint_ge c] at hb
      rcases List.mem_cons.mp hb with e | e
      · omega
      · exact vint_byte k (n / 128) (by
          have e : (128 : Int) ^ (k + 1 + 1) = 128 ^ (k + 1) * 128 := Int.pow_succ ..
          rw [e] at h
          exact Int.ediv_lt_of_lt_mul (by decide) h) (by omega) b e
theorem vint_byte_NB {n : Int} (h : n < NB) (h0 : 0 ≤ n) : ∀ b ∈ vint n, 0 ≤ b ∧ b < 256 := vint_byte 99 n h h0
/-! ### numbers of the law -/
def lawNum (c : Int) : Int := if c < 10 ^ 18 then ([0, 1, 127, 128, 129, 16383, 16384, 16385, c] : List Int).getD (c % 9).toNat 0 else c % 10 ^ 60
theorem lawNum_lt {c : Int} (h : 0 ≤ c) : 0 ≤ lawNum c ∧ lawNum c < 10 ^ 60 := by
  unfold lawNum
  by_cases k : c < 10 ^ 18
  · rw [if_pos k]
    obtain ⟨j, hj, e⟩ : ∃ j : Nat, j < 9 ∧ (c % 9).toNat = j := ⟨_, by omega, rfl⟩
    rw [e]
    match j, hj with
    | 0, _ | 1, _ | 2, _ | 3, _ | 4, _ | 5, _ | 6, _ | 7, _ => exact ⟨by simp, by simp⟩
    | 8, _ => exact ⟨h, by show c < _; omega⟩
  · rw [if_neg k]
    exact ⟨Int.emod_nonneg _ (by decide), Int.emod_lt_of_pos _ (by decide)⟩
theorem num_NB {n : Int} (h : n < 10 ^ 60) : n < NB := Int.lt_of_lt_of_le h (by decide +kernel)
theorem canLay_dints : ∀ ns : List Int, PyData.canLayAll0 (ns.map PyData.int) = true
  | [] => rfl
  | n :: r => by
    show (PyData.canLay0 (.int n) && PyData.canLayAll0 (r.map PyData.int)) = true
    rw [canLay_dints r]
    rfl
theorem depth_dints : ∀ ns : List Int, PyData.depthAll (ns.map PyData.int) = 0
  | [] => by unfold PyData.depthAll; rfl
  | n :: r => by
    show PyData.depthAll (.int n :: r.map PyData.int) = 0
    unfold PyData.depthAll
    rw [depth_dints r]
    unfold PyData.depth
    rfl
theorem shaped_dInts (ns : List Int) : SeqAt.shaped (dInts ns) = true := by
  unfold SeqAt.shaped dInts
  rw [show PyData.canLay0 (.list (ns.map PyData.int)) = true from by unfold PyData.canLay0; exact canLay_dints ns]
  have : PyData.depth (.list (ns.map PyData.int)) = 1 := by
    unfold PyData.depth
    rw [depth_dints]
  rw [this]
  decide

--PART /work/steering/wip/parts/lawcell.lean
/-! ### the law's own helpers -/
def cell (ns : List Int) (k : Int) : Int := ((ns.getD k.toNat 0).natAbs : Int)
theorem cell_nn (ns : List Int) (k : Int) : 0 ≤ cell ns k := Int.natCast_nonneg _
def sp__law_cell (T : Env K mg) : Sp := fun vs H Q E => ∃ (a : Addr) (ns : List Int) (k : Int), vs = [.ref a, .int k] ∧ SqL K H a (ns.map V.int) ∧ 0 ≤ k ∧ Q (.int (cell ns k)) H
theorem ok__law_cell (T : Env K mg) : FnOk P w K mg base (L2.CX P w) 1 T.a__law_cell T.d__law_cell ["script", "k"] (sp__law_cell T) := by
  refine T.F__law_cell.okX sc__law_cell (fun vs H Q E h => by obtain ⟨_, _, _, rfl, _⟩ := h; rfl) (fun cdv A outer s H vs Q E hr h => ?_)
  obtain ⟨a, ns, k, rfl, hS, hk, h1⟩ := h
  refine ⟨_, (pss_cons (ps_if (pt_cmpR op_lt (pv 1) (pe_callB call_len (by rfl) T.z_len (by decide +kernel) (pa_cons (pv 0) pa_nil)) (nomark _)) (pss_one (ps_ret (pe_callB call_abs (by rfl) T.z_abs (by decide +kernel) (pa_cons (pe_callTy call_int1 (by rfl) T.z_int (by decide +kernel) (pa_cons (pe_ix ix_list (pv 0) (pv 1) (fun _ _ => rfl)) pa_nil)) pa_nil)))) pss_nil)
      (pss_one (ps_ret pe_int))), ?_⟩
  obtain ⟨j, rfl⟩ : ∃ j : Nat, k = (j : Int) := ⟨k.toNat, by omega⟩
  have hc : cell ns (j : Int) = ((ns.getD j 0).natAbs : Int) := rfl
  refine ⟨_, rfl, _, rfl, _, _, rfl, .inl ⟨_, hS, rfl⟩, _, _, rfl, rfl, _, rfl, iteD (fun c => ?_) (fun c => ?_)⟩
  · rw [List.length_map] at c
    have hj : j < ns.length := by omega
    refine ⟨_, rfl, _, rfl, a, _, _, _, rfl, rfl, hS, at_of (j := j) (v := V.int (ns.getD j 0)) rfl (by rw [List.getElem?_map, List.getD_eq_getElem?_getD, List.getElem?_eq_getElem hj]; rfl), .inl ⟨_, rfl, _, rfl, ?_⟩⟩
    have e : (if ns.getD j 0 < 0 then -ns.getD j 0 else ns.getD j 0) = cell ns (j : Int) := by
      rw [hc]
      split <;> omega
    show Q (V.int (if ns.getD j 0 < 0 then -ns.getD j 0 else ns.getD j 0)) H
    rw [e]
    exact h1
  · rw [List.length_map] at c
    show Q (.int 0) H
    have e : cell ns (j : Int) = 0 := by
      rw [hc, List.getD_eq_getElem?_getD, List.getElem?_eq_none (by omega)]
      rfl
    rw [e] at h1
    exact h1

--PART /work/steering/wip/parts/draws.lean
/-! ### drawn numbers -/
def bigGo (l : Int) : Nat → Int → List Int
  | 0, _ => []
  | m + 1, c => c % l :: bigGo l m (c / l)
def mixGo (l : Int) : Nat → Int → Int → List Int
  | 0, _, _ => []
  | m + 1, k, x => ((x * 16807 + 7919 * k) % 2147483647) / 64 % l :: mixGo l m (k + 1) ((x * 16807 + 7919 * k) % 2147483647)
def draws (c : Int) (m : Nat) (l : Int) : List Int := if 10 ^ 18 ≤ c then bigGo l m c else mixGo l m 0 ((c * 48271 + 12345) % 2147483647)
theorem bigGo_len (l : Int) : ∀ m c, (bigGo l m c).length = m
  | 0, _ => rfl
  | m + 1, c => by
    show (bigGo l m _).length + 1 = _
    rw [bigGo_len l m]
theorem mixGo_len (l : Int) : ∀ m k x, (mixGo l m k x).length = m
  | 0, _, _ => rfl
  | m + 1, k, x => by
    show (mixGo l m _ _).length + 1 = _
    rw [mixGo_len l m]
theorem bigGo_mem {l : Int} (hl : 0 < l) : ∀ m c, ∀ d ∈ bigGo l m c, 0 ≤ d ∧ d < l
  | 0, _, d, h => by cases h
  | m + 1, c, d, h => by
    rcases List.mem_cons.mp h with e | e
    · rw [e]
      exact ⟨Int.emod_nonneg _ (by omega), Int.emod_lt_of_pos _ hl⟩
    · exact bigGo_mem hl m _ d e
theorem mixGo_mem {l : Int} (hl : 0 < l) : ∀ m k x, ∀ d ∈ mixGo l m k x, 0 ≤ d ∧ d < l
  | 0, _, _, d, h => by cases h
  | m + 1, k, x, d, h => by
    rcases List.mem_cons.mp h with e | e
    · rw [e]
      exact ⟨Int.emod_nonneg _ (by omega), Int.emod_lt_of_pos _ hl⟩
    · exact mixGo_mem hl m _ _ d e
theorem draws_len (c : Int) (m : Nat) (l : Int) : (draws c m l).length = m := by
  unfold draws
  split
  · exact bigGo_len l m c
  · exact mixGo_len l m _ _
theorem draws_mem {c : Int} {m : Nat} {l : Int} (hl : 0 < l) : ∀ d ∈ draws c m l, 0 ≤ d ∧ d < l := by
  unfold draws
  split
  · exact bigGo_mem hl m c
  · exact mixGo_mem hl m _ _
def sp__law_draws (T : Env K mg) : Sp := fun vs H Q E => ∃ c m l : Int, vs = [.int c, .int m, .int l] ∧ 0 ≤ m ∧ m ≤ 100000 ∧ 0 < l ∧ l < 1000000 ∧ ∀ p H', Same H H' → H p = none → Li H' p (draws c m.toNat l) → Q (.ref p) H'
theorem ok__law_draws (T : Env K mg) : FnOk P w K mg base (L2.CX P w) 1 T.a__law_draws T.d__law_draws ["cell", "many", "limit"] (sp__law_draws T) := by
  refine T.F__law_draws.okX sc__law_draws (fun vs H Q E h => by obtain ⟨_, _, _, rfl, _⟩ := h; rfl) (fun cdv A outer s H vs Q E hr h => ?_)
  obtain ⟨c, m, l, rfl, hm, hm2, hl, hl2, h1⟩ := h
  refine ⟨_, (pss_cons (ps_set (i := 3) sc__law_draws.nd rfl (Or.inl rfl) (pe_lst pa_nil))
      (pss_cons (ps_if (pt_cmpR op_ge (pv 0) (pe_op op_pow pe_int pe_int) (nomark _)) (pss_cons (ps_for (passes_of rfl) rfl (pi_range1 rfl T.z_range (pa_cons (pv 1) pa_nil)) (pg_name (i := 4) sc__law_draws.nd rfl (Or.inl rfl)) (pss_cons (ps_expr (pe_bm PySem.F.plainAttrs_list PySem.F.slot_list_append PySem.F.type_list_append mt_append (pv 3) (pa_cons (pe_op op_mod (pe_callTy call_int1 (by rfl) T.z_int (by decide +kernel) (pa_cons (pv 0) pa_nil)) (pv 2)) pa_nil)))
      (pss_one (ps_set (i := 0) sc__law_draws.nd rfl (Or.inl rfl) (pe_op op_fdiv (pv 0) (pv 2))))))
      (pss_one (ps_ret (pv 3)))) pss_nil)
      (pss_cons (ps_set (i := 5) sc__law_draws.nd rfl (Or.inl rfl) (pe_op op_mod (pe_callTy call_int1 (by rfl) T.z_int (by decide +kernel) (pa_cons (pe_op op_add (pe_op op_mul (pv 0) pe_int) pe_int) pa_nil)) pe_int))
      (pss_cons (ps_for (passes_of rfl) rfl (pi_range1 rfl T.z_range (pa_cons (pv 1) pa_nil)) (pg_name (i := 4) sc__law_draws.nd rfl (Or.inl rfl)) (pss_cons (ps_set (i := 5) sc__law_draws.nd rfl (Or.inl rfl) (pe_op op_mod (pe_callTy call_int1 (by rfl) T.z_int (by decide +kernel) (pa_cons (pe_op op_add (pe_op op_mul (pv 5) pe_int) (pe_op op_mul pe_int (pv 4))) pa_nil)) pe_int))
      (pss_one (ps_expr (pe_bm PySem.F.plainAttrs_list PySem.F.slot_list_append PySem.F.type_list_append mt_append (pv 3) (pa_cons (pe_op op_mod (pe_op op_fdiv (pv 5) pe_int) (pv 2)) pa_nil))))))
      (pss_one (ps_ret (pv 3))))))), ?_⟩
  refine ⟨Nat.zero_le _, fun p np => ?_⟩
  refine ⟨_, rfl, _, _, rfl, rfl, ⟨by decide, by decide, by decide⟩, _, _, rfl, rfl, _, rfl, iteD (fun k => ?_) (fun k => ?_)⟩
  · have k : 10 ^ 18 ≤ c := k
    have ed : draws c m.toNat l = bigGo l m.toNat c := if_pos k
    rw [ed] at h1
    refine ⟨_, rfl, m, rfl, by omega, by omega, for_range (n := m.toNat) (fun i σ H' => ∃ c' v4 pre, σ = [some (.int c'), some (.int m), some (.int l), some (.ref p), v4, none] ∧ i ≤ m.toNat ∧ pre.length = i ∧ pre ++ bigGo l (m.toNat - i) c' = bigGo l m.toNat c ∧ Same H H' ∧ Li H' p pre) ⟨c, none, [], rfl, Nat.zero_le _, rfl, rfl, same_new np, upd_same⟩ ?_ ?_⟩
    · rintro i σ H1 hi ⟨c', v4, pre, rfl, _, hp, he, hs, hL⟩
      refine ⟨_, rfl, .inl ⟨rfl, _, SqL.of hL⟩, _, rfl, .inl ⟨_, rfl, _, rfl, _, _, rfl, rfl, hl, _, _, _, rfl, rfl, hL, szl (by rw [List.length_map]; omega), ?_⟩⟩
      refine ⟨_, rfl, _, rfl, _, _, rfl, rfl, ⟨hl, by omega⟩, ?_⟩
      refine ⟨c' / l, _, pre ++ [c' % l], rfl, by omega, by rw [List.length_append, hp]; rfl, ?_, same_mut hs np, li_push⟩
      rw [← he, List.append_assoc, show m.toNat - i = (m.toNat - (i + 1)) + 1 by omega]
      rfl
    · rintro σ H1 ⟨c', v4, pre, rfl, _, hp, he, hs, hL⟩
      refine ⟨_, rfl, h1 p _ hs np ?_⟩
      rw [← he, Nat.sub_self]
      show Li _ _ (pre ++ [])
      rw [List.append_nil]
      exact hL
  · have k : ¬ 10 ^ 18 ≤ c := k
    have ed : draws c m.toNat l = mixGo l m.toNat 0 ((c * 48271 + 12345) % 2147483647) := if_neg k
    rw [ed] at h1
    refine ⟨_, rfl, _, _, rfl, rfl, .inr ⟨by decide, by decide⟩, _, _, rfl, rfl, .inl ⟨_, rfl, _, _, rfl, rfl, by show (0 : Int) < _; decide, ?_⟩⟩
    refine ⟨_, rfl, m, rfl, by omega, by omega, for_range (n := m.toNat) (fun i σ H' => ∃ x v4 pre, σ = [some (.int c), some (.int m), some (.int l), some (.ref p), v4, some (.int x)] ∧ i ≤ m.toNat ∧ pre.length = i ∧ pre ++ mixGo l (m.toNat - i) (0 + (i : Int)) x = mixGo l m.toNat 0 ((c * 48271 + 12345) % 2147483647) ∧ Same H H' ∧ Li H' p pre) ⟨_, none, [], rfl, Nat.zero_le _, rfl, rfl, same_new np, upd_same⟩ ?_ ?_⟩
    · rintro i σ H1 hi ⟨x, v4, pre, rfl, _, hp, he, hs, hL⟩
      refine ⟨_, rfl, _, _, rfl, rfl, .inr ⟨by decide, by decide⟩, _, rfl, _, _, rfl, rfl, .inl ⟨by decide, by decide⟩, _, _, rfl, rfl, .inl ⟨_, rfl, _, _, rfl, rfl, by show (0 : Int) < _; decide, ?_⟩⟩
      refine ⟨_, rfl, .inl ⟨rfl, _, SqL.of hL⟩, _, rfl, _, _, rfl, rfl, ⟨by decide, by decide⟩, _, rfl, _, _, rfl, rfl, hl, _, _, _, rfl, rfl, hL, szl (by rw [List.length_map]; omega), ?_⟩
      refine ⟨_, _, pre ++ [((x * 16807 + 7919 * (0 + (i : Int))) % 2147483647) / 64 % l], rfl, by omega, by rw [List.length_append, hp]; rfl, ?_, same_mut hs np, li_push⟩
      rw [← he, List.append_assoc, show m.toNat - i = (m.toNat - (i + 1)) + 1 by omega, show (0 + ((i + 1 : Nat) : Int)) = 0 + (i : Int) + 1 by omega]
      rfl
    · rintro σ H1 ⟨x, v4, pre, rfl, _, hp, he, hs, hL⟩
      refine ⟨_, rfl, h1 p _ hs np ?_⟩
      rw [← he, Nat.sub_self]
      show Li _ _ (pre ++ [])
      rw [List.append_nil]
      exact hL
def blk (c : Int) (m : Nat) : List Int := (draws c m 997).map (· % 256)
theorem blk_len (c : Int) (m : Nat) : (blk c m).length = m := by
  unfold blk
  rw [List.length_map, draws_len]
theorem blk_mem (c : Int) (m : Nat) : ∀ d ∈ blk c m, 0 ≤ d ∧ d < 256 := by
  intro d h
  obtain ⟨e, _, rfl⟩ := List.mem_map.mp h
  exact ⟨Int.emod_nonneg _ (by decide), Int.emod_lt_of_pos _ (by decide)⟩
--PART /work/steering/wip/parts/strmul.lean


--PART /work/steering/wip/parts/encnum.lean
--PART /work/steering/wip/parts/texts.lean
/-! ### texts -/
abbrev AL : Str := "abcdefghijklmnopqrstuvwxyz0123456789./"
def codeI (c : Nat) : Int := Txt.find AL ⟨#[c]⟩
def okT (t : Str) : Prop := ∀ c ∈ t.cps.toList, 0 ≤ codeI c
instance (t : Str) : Decidable (okT t) := by unfold okT; infer_instance
def encT (t : Str) : List Int := vint t.length ++ t.cps.toList.map codeI
theorem str_len (t : Str) : t.length = t.cps.toList.length := rfl
theorem encT_len {t : Str} (h : t.length ≤ 100000) : (encT t).length ≤ 100100 := by
  unfold encT
  rw [List.length_append, List.length_map, ← str_len]
  have := vint_len100 (n := (t.length : Int)) (Int.lt_of_le_of_lt (b := 100000) (by omega) (by decide +kernel))
  omega
theorem encT_le {t : Str} (h : t.length ≤ 100000) : (encT t).length ≤ t.length + 100 := by
  unfold encT
  rw [List.length_append, List.length_map, ← str_len]
  have := vint_len100 (n := (t.length : Int)) (Int.lt_of_le_of_lt (b := 100000) (by omega) (by decide +kernel))
  omega
theorem small_NB {n : Nat} (h : n ≤ 100000) : ((n : Nat) : Int) < NB := Int.lt_of_le_of_lt (b := 100000) (by omega) (by decide +kernel)
theorem for_its {t : Str} {g : TG} {tb : TS} {D : Ends} {σ : L2.St} {H : Hp} (Pv : Nat → L2.St → Hp → Prop) (h0 : Pv 0 σ H)
    (hs : ∀ (i : Nat) (c : Nat) (σ : L2.St) (H : Hp), t.cps.toList[i]? = some c → Pv i σ H → g (.str ⟨#[c]⟩) σ H fun σ2 H2 => tb { nx := Pv (i + 1), rt := D.rt, bk := D.nx, ct := Pv (i + 1) } σ2 H2)
    (hd : ∀ (σ : L2.St) (H : Hp), Pv t.length σ H → D.nx σ H) :
    ∃ W : Nat → Nat → L2.St → Hp → Prop, (∃ m, W 0 m σ H) ∧ ∀ (i m : Nat) (σ : L2.St) (H : Hp), W i m σ H → ((Its t).stop i H ∧ D.nx σ H) ∨ ((Its t).go i H ∧ ∃ N : L2.St → Hp → Prop, (∀ (σ' : L2.St) (H' : Hp), N σ' H' → ∃ m', m' < m ∧ W (i + 1) m' σ' H') ∧
      ∀ (x : V) (H' : Hp), (Its t).yld i H x H' → g x σ H' fun σ2 H2 => tb { nx := N, rt := D.rt, bk := D.nx, ct := N } σ2 H2) := by
  refine ⟨fun i m σ H => m = t.length - i ∧ i ≤ t.length ∧ Pv i σ H, ⟨_, rfl, Nat.zero_le _, h0⟩, ?_⟩
  rintro i m σ H ⟨rfl, hi, hp⟩
  by_cases k : i < t.length
  · refine .inr ⟨k, Pv (i + 1), fun σ' H' hq => ⟨_, by omega, rfl, k, hq⟩, ?_⟩
    rintro x H' ⟨rfl, c, hc, rfl⟩
    exact hs i c σ H' (by rw [Array.getElem?_toList]; exact hc) hp
  · have e : i = t.length := by omega
    subst e
    exact .inl ⟨Nat.le_refl _, hd σ H hp⟩
theorem glue_sg (a : Array Nat) : ∀ L : List Nat, List.foldl (fun acc (p : Str) => acc ++ Str.empty.cps ++ p.cps) a (L.map fun c => (⟨#[c]⟩ : Str)) = a ++ L.toArray
  | [] => by simp
  | c :: r => by
    rw [List.map_cons, List.foldl_cons, glue_sg _ r]
    show (a ++ #[] ++ #[c]) ++ r.toArray = _
    simp
theorem join_sg (L : List Nat) : Txt.join Str.empty (L.map fun c => (⟨#[c]⟩ : Str)) = ⟨L.toArray⟩ := by
  cases L with
  | nil => rfl
  | cons c r =>
    show (⟨List.foldl (fun acc (p : Str) => acc ++ Str.empty.cps ++ p.cps) #[c] (r.map fun c => (⟨#[c]⟩ : Str))⟩ : Str) = _
    rw [glue_sg]
    simp
theorem sum_sg (L : List Nat) : ((L.map fun c => (⟨#[c]⟩ : Str)).map (·.length)).sum = L.length := by
  induction L with
  | nil => rfl
  | cons c r ih =>
    rw [List.map_cons, List.map_cons, List.sum_cons, ih, List.length_cons]
    show 1 + r.length = _
    omega
/-! list or tuple -/
def Sq (K : PySem.W.Frag) (H : Hp) (a : Addr) (xs : List V) : Prop := SqL K H a xs ∨ SqT K H a xs
theorem sqt_same {K : PySem.W.Frag} {H H' : Hp} {a : Addr} {xs : List V} (s : Same H H') (h : SqT K H a xs) : SqT K H' a xs := by
  rcases h with h1 | h1
  · rcases h1 with h1 | ⟨o, h1⟩
    · exact .inl (.inl (s _ _ h1))
    · exact .inl (.inr ⟨o, s _ _ h1⟩)
  · exact .inr h1
theorem Sq.same {K : PySem.W.Frag} {H H' : Hp} {a : Addr} {xs : List V} (h : Sq K H a xs) (s : Same H H') : Sq K H' a xs := h.elim (fun h => .inl (s.seq h)) fun h => .inr (sqt_same s h)
theorem Sq.len {K : PySem.W.Frag} {H : Hp} {a : Addr} {xs : List V} (h : Sq K H a xs) : LenV K (V.ref a) H xs.length := h.elim (fun h => .inl ⟨_, h, rfl⟩) fun h => .inr ⟨_, h, rfl⟩
/-- a for over a list or a tuple that stands in a slot -/
theorem for_seq {K : PySem.W.Frag} {a : Addr} {xs : List V} {j : Nat} {g : TG} {tb : TS} {D : Ends} {σ : L2.St} {H H0 : Hp} (Pv : Nat → L2.St → Hp → Prop) (hj : σ[j]? = some (some (V.ref a))) (hS : Sq K H0 a xs) (sH : Same H0 H)
    (h0 : Pv 0 σ H) (hs : ∀ (i : Nat) (σ' : L2.St) (H' : Hp), i ≤ xs.length → Pv i σ' H' → Same H0 H')
    (hb : ∀ (i : Nat) (x : V) (σ : L2.St) (H : Hp), xs[i]? = some x → Pv i σ H → g x σ H fun σ2 H2 => tb { nx := Pv (i + 1), rt := D.rt, bk := D.nx, ct := Pv (i + 1) } σ2 H2) (hd : ∀ (σ : L2.St) (H : Hp), Pv xs.length σ H → D.nx σ H) :
    iSeq K (tVar j) σ H fun J H1 => ∃ W : Nat → Nat → L2.St → Hp → Prop, (∃ m, W 0 m σ H1) ∧ ∀ (i m : Nat) (σ : L2.St) (H : Hp), W i m σ H → (J.stop i H ∧ D.nx σ H) ∨ (J.go i H ∧ ∃ N : L2.St → Hp → Prop, (∀ (σ' : L2.St) (H' : Hp), N σ' H' → ∃ m', m' < m ∧ W (i + 1) m' σ' H') ∧
      ∀ (x : V) (H' : Hp), J.yld i H x H' → g x σ H' fun σ2 H2 => tb { nx := N, rt := D.rt, bk := D.nx, ct := N } σ2 H2) := by
  rcases hS with hS | hS
  · exact .inl ⟨_, hj, a, rfl, ⟨_, sH.seq hS⟩, for_list Pv h0 (fun i σ' H' hi hp => (hs i σ' H' hi hp).seq hS) hb hd⟩
  · exact .inr ⟨_, hj, a, rfl, ⟨_, sqt_same sH hS⟩, for_tup Pv h0 (fun i σ' H' hi hp => sqt_same (hs i σ' H' hi hp) hS) hb hd⟩
def encTs (ts : List Str) : List Int := vint ts.length ++ ts.flatMap encT
theorem encTs_len : ∀ (ts : List Str), (∀ t ∈ ts, t.length ≤ 400) → (ts.flatMap encT).length ≤ 500 * ts.length
  | [], _ => by simp
  | t :: r, h => by
    have := encTs_len r fun t ht => h t (List.mem_cons_of_mem _ ht)
    have h1 := h t List.mem_cons_self
    have h2 : (encT t).length ≤ 500 := by
      unfold encT
      rw [List.length_append, List.length_map, ← str_len]
      have := vint_len100 (n := (t.length : Int)) (Int.lt_of_le_of_lt (b := 100000) (by omega) (by decide +kernel))
      omega
    rw [List.flatMap_cons, List.length_append, List.length_cons]
    omega
theorem mem_str {ts : List Str} {i : Nat} {x : V} (hx : (ts.map V.str)[i]? = some x) : ∃ t, ts[i]? = some t ∧ x = V.str t := by
  rw [List.getElem?_map] at hx
  cases e : ts[i]? with
  | none => rw [e] at hx; cases hx
  | some u => rw [e] at hx; exact ⟨u, rfl, (Option.some.inj hx).symm⟩
def chr (d : Int) : Nat := AL.cps.toList.getD d.toNat 0
theorem al_len : AL.cps.toList.length = 38 := by decide +kernel
theorem al_ok : ∀ c ∈ AL.cps.toList, 0 ≤ codeI c := by decide +kernel
theorem chr_mem {d : Int} (h0 : 0 ≤ d) (h : d < 38) : chr d ∈ AL.cps.toList := by
  unfold chr
  rw [List.getD_eq_getElem?_getD, List.getElem?_eq_getElem (by rw [al_len]; omega)]
  exact List.getElem_mem _
theorem at_chr {d : Int} (h0 : 0 ≤ d) (h : d < 38) : atI AL.cps.toList d = some (chr d) := by
  have e : d = ((d.toNat : Nat) : Int) := by omega
  have k : AL.cps.toList[d.toNat]? = some (chr d) := by
    unfold chr
    rw [List.getD_eq_getElem?_getD, List.getElem?_eq_getElem (by rw [al_len]; omega)]
    rfl
  have := atI_nat k
  rw [← e] at this
  exact this
def ltxt (c : Int) (m : Nat) : Str := ⟨((draws c m 38).map chr).toArray⟩
theorem ltxt_len (c : Int) (m : Nat) : (ltxt c m).length = m := by
  rw [str_len]
  show ((draws c m 38).map chr).length = m
  rw [List.length_map, draws_len]
theorem ltxt_ok (c : Int) (m : Nat) : okT (ltxt c m) := by
  intro x hx
  have hx : x ∈ (draws c m 38).map chr := hx
  obtain ⟨d, hd, rfl⟩ := List.mem_map.mp hx
  have := draws_mem (c := c) (m := m) (l := 38) (by decide) d hd
  exact al_ok _ (chr_mem this.1 this.2)
abbrev sg (c : Nat) : Str := ⟨#[c]⟩
/-! texts of the alphabet; lists of texts as data -/
def alT (t : Str) : Prop := ∀ c ∈ t.cps.toList, c ∈ AL.cps.toList
theorem alT.ok {t : Str} (h : alT t) : okT t := fun c hc => al_ok c (h c hc)
theorem al_small : ∀ c ∈ AL.cps.toList, c < 1114112 := by decide +kernel
theorem alT.strOk {t : Str} (h : alT t) : PyData.strOk t = true := by
  unfold PyData.strOk
  rw [Array.all_eq_true_iff_forall_mem]
  intro c hc
  exact decide_eq_true (al_small c (h c (Array.mem_toList_iff.mpr hc)))
theorem ltxt_al (c : Int) (m : Nat) : alT (ltxt c m) := by
  intro x hx
  have hx : x ∈ (draws c m 38).map chr := hx
  obtain ⟨d, hd, rfl⟩ := List.mem_map.mp hx
  have := draws_mem (c := c) (m := m) (l := 38) (by decide) d hd
  exact chr_mem this.1 this.2
def dStrs (ts : List Str) : PyData := .list (ts.map PyData.str)
theorem dp_all_strs {K : PySem.W.Frag} {H : Hp} : ∀ ts : List Str, DpAll K H (ts.map V.str) (ts.map PyData.str)
  | [] => .nil
  | n :: r => .cons (.str n) (dp_all_strs r)
theorem dp_strs {K : PySem.W.Frag} {H : Hp} {a : Addr} {ts : List Str} (h : SqL K H a (ts.map V.str)) : Dp K H (.ref a) (dStrs ts) := .lst h (dp_all_strs ts)
theorem good_strs : ∀ ts : List Str, (∀ t ∈ ts, alT t) → PyData.canLayAll0 (ts.map PyData.str) = true ∧ PyData.depthAll (ts.map PyData.str) = 0 ∧ PyData.eqvAll (ts.map PyData.str) (ts.map PyData.str) = true
  | [], _ => ⟨rfl, by rw [List.map_nil, PyData.depthAll], rfl⟩
  | t :: r, h => by
    obtain ⟨h1, h2, h3⟩ := good_strs r fun x hx => h x (List.mem_cons_of_mem _ hx)
    refine ⟨?_, ?_, ?_⟩
    · show (PyData.canLay0 (.str t) && PyData.canLayAll0 (r.map PyData.str)) = true
      rw [h1, show PyData.canLay0 (.str t) = true by unfold PyData.canLay0; exact (h t List.mem_cons_self).strOk]
      rfl
    · show PyData.depthAll (.str t :: r.map PyData.str) = 0
      rw [PyData.depthAll, h2, PyData.depth]
      rfl
    · show ((t == t) && PyData.eqvAll (r.map PyData.str) (r.map PyData.str)) = true
      rw [h3]
      simp
theorem shaped_strs {ts : List Str} (h : ∀ t ∈ ts, alT t) : SeqAt.shaped (dStrs ts) = true := by
  obtain ⟨h1, h2, _⟩ := good_strs ts h
  unfold SeqAt.shaped dStrs
  rw [show PyData.canLay0 (.list (ts.map PyData.str)) = true from by unfold PyData.canLay0; exact h1]
  have : PyData.depth (.list (ts.map PyData.str)) = 1 := by
    unfold PyData.depth
    rw [h2]
  rw [this]
  decide
theorem eqv_strs {ts : List Str} (h : ∀ t ∈ ts, alT t) : PyData.eqv (dStrs ts) (dStrs ts) = true := (good_strs ts h).2.2
theorem inV_str (k : Str) (ts : List Str) : inV (.str k) (ts.map V.str) = decide (k ∈ ts) := by
  unfold inV
  induction ts with
  | nil => simp
  | cons t r ih =>
    rw [List.map_cons, List.any_cons, ih]
    show ((t == k) || decide (k ∈ r)) = _
    by_cases e : t = k
    · subst e; simp
    · have e2 : ¬ k = t := fun q => e q.symm
      simp [e, e2]
theorem flat_strs (ts : List Str) : (ts.map V.str).all flatV = true := by
  induction ts with
  | nil => rfl
  | cons t r ih => rw [List.map_cons, List.all_cons, ih]; rfl
theorem cutS_len (z : Str) (lo hi : Option Int) : (cutS z lo hi).length ≤ z.length := by
  show (List.take _ (List.drop _ z.cps.toList)).length ≤ z.cps.toList.length
  rw [List.length_take, List.length_drop]
  omega
theorem app_len (a b : Str) : (a ++ b).length = a.length + b.length := by
  show (a.cps ++ b.cps).size = _
  rw [Array.size_append]
  rfl

--PART /work/steering/wip/parts/ascend.lean
/-! ### ascending texts -/
abbrev ltS (a b : Str) : Prop := a.cps.toList < b.cps.toList
theorem ltS_trans {a b c : Str} (h : ltS a b) (k : ltS b c) : ltS a c := List.lt_trans h k
theorem ltS_irrefl (a : Str) : ¬ ltS a a := List.lt_irrefl _
theorem str_ext {a b : Str} (h : a.cps.toList = b.cps.toList) : a = b := by
  obtain ⟨⟨x⟩⟩ := a
  obtain ⟨⟨y⟩⟩ := b
  have : x = y := h
  rw [this]
theorem ltS_of {a b : Str} (h : ¬ ltS b a) (n : a ≠ b) : ltS a b := Std.lt_of_le_of_ne h fun q => n (str_ext q)
theorem ltS_ne {b : Str} (h : ltS Str.empty b) : b ≠ Str.empty := fun q => ltS_irrefl _ (q ▸ h)
theorem ltS_empty {b : Str} (h : b ≠ Str.empty) : ltS Str.empty b := ltS_of (fun q => absurd q (List.not_lt_nil _)) (Ne.symm h)
def ascS : Str → List Str → Bool
  | _, [] => true
  | p, k :: r => decide (ltS p k) && ascS k r
theorem asc_pw : ∀ (p : Str) (ts : List Str), ascS p ts = true ↔ (p :: ts).Pairwise ltS
  | p, [] => by simp [ascS]
  | p, k :: r => by
    have ih := asc_pw k r
    show (decide (ltS p k) && ascS k r) = true ↔ _
    rw [Bool.and_eq_true, decide_eq_true_iff, ih]
    constructor
    · rintro ⟨h1, h2⟩
      exact List.pairwise_cons.mpr ⟨fun x hx => by
        rcases List.mem_cons.mp hx with e | e
        · rw [e]; exact h1
        · exact ltS_trans h1 ((List.pairwise_cons.mp h2).1 x e), h2⟩
    · intro h
      exact ⟨(List.pairwise_cons.mp h).1 k List.mem_cons_self, (List.pairwise_cons.mp h).2⟩
theorem rising_asc : ∀ (p : Str) (ys : List Str), risingS p ys = true → (p :: ys).Nodup → ascS p ys = true
  | _, [], _, _ => rfl
  | p, k :: r, h, hn => by
    have h : (!ltCps k.cps.toList p.cps.toList && risingS k r) = true := h
    rw [Bool.and_eq_true, ltCps_eq] at h
    have h1 : ¬ ltS k p := by simpa using h.1
    have hn2 := List.nodup_cons.mp hn
    show (decide (ltS p k) && ascS k r) = true
    rw [Bool.and_eq_true, decide_eq_true_iff]
    exact ⟨ltS_of h1 fun q => hn2.1 (q ▸ List.mem_cons_self), rising_asc k r h.2 hn2.2⟩
theorem sorted_asc {ys : List Str} (h : sortedS ys = true) (hn : ys.Nodup) (he : Str.empty ∉ ys) : ascS Str.empty ys = true := by
  cases ys with
  | nil => rfl
  | cons k r =>
    have h : risingS k r = true := h
    show (decide (ltS Str.empty k) && ascS k r) = true
    rw [Bool.and_eq_true, decide_eq_true_iff]
    exact ⟨ltS_empty fun q => he (q ▸ List.mem_cons_self), rising_asc k r h hn⟩
--PART /work/steering/wip/parts/lawkeys.lean
/-! ### the law's keys -/
instance (t : Str) : Decidable (alT t) := by unfold alT; infer_instance
theorem sg_len (c : Nat) : (sg c).length = 1 := rfl
theorem chr_at (d : Int) (h0 : 0 ≤ d) (h : d < 38) : atI AL.cps.toList d = some (chr d) := at_chr h0 h
theorem rep_al {z : Str} (h : alT z) (n : Nat) : alT (repS z n) := by
  have key : ∀ (n : Nat) (a : Array Nat), (∀ c ∈ a.toList, c ∈ AL.cps.toList) → ∀ c ∈ (List.foldl (fun (x y : Array Nat) => x ++ y) a (List.replicate n z.cps)).toList, c ∈ AL.cps.toList := by
    intro n
    induction n with
    | zero => intro a ha; exact ha
    | succ n ih =>
      intro a ha
      rw [List.replicate_succ, List.foldl_cons]
      refine ih _ fun c hc => ?_
      rw [Array.toList_append] at hc
      rcases List.mem_append.mp hc with q | q
      · exact ha c q
      · exact h c q
  exact key n #[] fun c hc => by simp at hc
theorem app_al {a b : Str} (ha : alT a) (hb : alT b) : alT (a ++ b) := by
  intro c hc
  have hc : c ∈ (a.cps ++ b.cps).toList := hc
  rw [Array.toList_append] at hc
  rcases List.mem_append.mp hc with q | q
  · exact ha c q
  · exact hb c q
theorem chr_al {d : Int} (h0 : 0 ≤ d) (h : d < 38) : alT (sg (chr d)) := by
  intro c hc
  have : c = chr d := by simpa using hc
  rw [this]
  exact chr_mem h0 h
theorem at_dd {D : List Int} {z : Int} (j : Nat) (e : z = (j : Int)) (h : j < D.length) : atI (D.map V.int) z = some (.int (D.getD j 0)) := at_of e (by rw [List.getElem?_map, List.getD_eq_getElem?_getD, List.getElem?_eq_getElem h]; rfl)
theorem draws_at {c : Int} {m : Nat} {l : Int} (hl : 0 < l) {j : Nat} (h : j < m) : 0 ≤ (draws c m l).getD j 0 ∧ (draws c m l).getD j 0 < l := draws_mem hl _ (by
  rw [List.getD_eq_getElem?_getD, List.getElem?_eq_getElem (by rw [draws_len]; exact h)]
  exact List.getElem_mem _)
def kOk (ks : List Str) (n : Nat) : Prop := ∀ k ∈ ks, alT k ∧ 1 ≤ k.length ∧ k.length ≤ n
def sp__law_keys (T : Env K mg) : Sp := fun vs H Q E => ∃ c : Int, vs = [.int c] ∧ 0 ≤ c ∧ ∀ (p : Addr) (ks : List Str) (H' : Hp), Same H H' → H p = none → ks.length = 4 → kOk ks 10 → H' p = some (.lst (ks.map V.str)) → Q (.ref p) H'
theorem ok__law_keys (T : Env K mg) : FnOk P w K mg base (L2.CX P w) 2 T.a__law_keys T.d__law_keys ["cell"] (sp__law_keys T) := by
  refine T.F__law_keys.okX sc__law_keys (fun vs H Q E h => by obtain ⟨_, rfl, _⟩ := h; rfl) (fun cdv A outer s H vs Q E hr h => ?_)
  obtain ⟨c, rfl, hc, h1⟩ := h
  have hu64 := hu64_of hr
  have G__law_draws := ok__law_draws (P := P) (w := w) (base := base) T
  refine ⟨_, (pss_cons (ps_set (i := 1) sc__law_keys.nd rfl (Or.inl rfl) pe_str)
      (pss_cons (ps_set (i := 2) sc__law_keys.nd rfl (Or.inl rfl) (pe_call G__law_draws (hr.mono (by decide)) rfl T.g__law_draws T.F__law_draws.kp T.b__law_draws .nil passL (pa_cons (pv 0) (pa_cons pe_int (pa_cons pe_int pa_nil)))))
      (pss_cons (ps_set (i := 3) sc__law_keys.nd rfl (Or.inl rfl) (pe_lst pa_nil))
      (pss_cons (ps_for (passes_of rfl) rfl (pi_range1 rfl T.z_range (pa_cons pe_int pa_nil)) (pg_name (i := 4) sc__law_keys.nd rfl (Or.inl rfl)) (pss_cons (ps_set (i := 5) sc__law_keys.nd rfl (Or.inl rfl) (pe_op op_mul_str (pe_ix ix_str (pv 1) (pe_ix ix_list (pv 2) (pv 4) (fun _ _ => rfl)) (fun _ _ => rfl)) (pe_op op_mod (pe_callTy call_int1 (by rfl) T.z_int (by decide +kernel) (pa_cons (pe_ix ix_list (pv 2) (pe_op op_add (pv 4) pe_int) (fun _ _ => rfl)) pa_nil)) pe_int)))
      (pss_one (ps_expr (pe_bm PySem.F.plainAttrs_list PySem.F.slot_list_append PySem.F.type_list_append mt_append (pv 3) (pa_cons (pe_op op_add_str (pv 5) (pe_ix ix_str (pv 1) (pe_op op_mod (pe_callTy call_int1 (by rfl) T.z_int (by decide +kernel) (pa_cons (pe_op op_add (pe_op op_add (pe_ix ix_list (pv 2) pe_int (fun _ _ => rfl)) (pe_op op_mul pe_int (pv 4))) (pe_op op_mod (pe_callTy call_int1 (by rfl) T.z_int (by decide +kernel) (pa_cons (pe_ix ix_list (pv 2) (pe_op op_add (pv 4) pe_int) (fun _ _ => rfl)) pa_nil)) pe_int)) pa_nil)) pe_int) (fun _ _ => rfl))) pa_nil))))))
      (pss_cons (ps_set (i := 6) sc__law_keys.nd rfl (Or.inl rfl) (pe_lst pa_nil))
      (pss_cons (ps_for (passes_of rfl) rfl (pi_list (pe_callB cr_sortedS (by rfl) T.z_sorted (by decide +kernel) (pa_cons (pv 3) pa_nil))) (pg_name (i := 7) sc__law_keys.nd rfl (Or.inl rfl)) (pss_one (ps_if (pt_cmpR op_notIn_seq (pv 7) (pv 6) rfl) (pss_one (ps_expr (pe_bm PySem.F.plainAttrs_list PySem.F.slot_list_append PySem.F.type_list_append mt_append (pv 6) (pa_cons (pv 7) pa_nil)))) pss_nil)))
      (pss_cons (ps_while (passes_of rfl) (pt_cmpR op_lt (pe_callB call_len (by rfl) T.z_len (by decide +kernel) (pa_cons (pv 6) pa_nil)) pe_int (nomark _)) (pss_one (ps_expr (pe_bm PySem.F.plainAttrs_list PySem.F.slot_list_append PySem.F.type_list_append mt_append (pv 6) (pa_cons (pe_op op_add_str (pe_ix ix_list (pv 6) (pe_un un_neg pe_int) (fun _ _ => rfl)) pe_str) pa_nil)))))
      (pss_one (ps_ret (pv 6)))))))))), ?_⟩
  refine ⟨_, rfl, c, 8, 38, rfl, by decide, by decide, by decide, by decide, fun pN H1 s1 npN hN => ?_⟩
  have hDl : (draws c (8 : Int).toNat 38).length = 8 := draws_len _ _ _
  have hg : ∀ j, j < 8 → 0 ≤ (draws c (8 : Int).toNat 38).getD j 0 ∧ (draws c (8 : Int).toNat 38).getD j 0 < 38 := fun j hj => draws_at (by decide) hj
  generalize draws c (8 : Int).toNat 38 = D at hN hDl hg
  refine ⟨Nat.zero_le _, fun pk npk => ?_⟩
  have npk0 : H pk = none := s1.free npk
  have s2 := s1.trans (same_new (o := .lst []) npk)
  have hN2 := same_new (o := .lst []) npk _ _ hN
  refine ⟨4, rfl, by decide, by decide, for_range (n := 4) (fun i σ H' => ∃ v4 v5, ∃ ks : List Str, σ = [some (.int c), some (.str AL), some (.ref pN), some (.ref pk), v4, v5, none, none] ∧ Same H H' ∧ Li H' pN D ∧ H' pk = some (.lst (ks.map V.str)) ∧ ks.length = i ∧ kOk ks 3) ⟨none, none, [], rfl, s2, hN2, upd_same, rfl, fun k h => by simp at h⟩ ?_ ?_⟩
  · rintro i σ H' hi ⟨v4, v5, ks, rfl, sA, hN', hK, hl, hk⟩
    have g0 := hg 0 (by omega)
    have gi := hg i (by omega)
    have gi4 := hg (i + 4) (by omega)
    have hAl : AL.length ≤ sizeLine := by rw [str_len, al_len]; exact szle (by decide)
    refine ⟨_, rfl, _, rfl, _, rfl, pN, _, _, _, rfl, rfl, SqL.of hN', at_dd (D := D) i (by omega) (by omega), _, _, _, rfl, rfl, hAl, chr_at _ gi.1 gi.2, ?_⟩
    refine ⟨_, rfl, _, rfl, _, _, rfl, rfl, pN, _, _, _, rfl, rfl, SqL.of hN', at_dd (D := D) (i + 4) (by omega) (by omega), .inl ⟨_, rfl, _, _, rfl, rfl, by show (0 : Int) < _; decide, _, _, rfl, rfl, by omega, by omega, (by show 1 ≤ 1000; decide), ?_⟩⟩
    have hH : alT (repS (sg (chr (D.getD i 0))) (D.getD (i + 4) 0 % 3).toNat) := rep_al (chr_al gi.1 gi.2) _
    have hHl : (repS (sg (chr (D.getD i 0))) (D.getD (i + 4) 0 % 3).toNat).length ≤ 2 := by rw [repS_len, sg_len]; omega
    show tSeq _ _ _ [some (.int c), some (.str AL), some (.ref pN), some (.ref pk), some (.int (0 + (i : Int))), some (.str (repS (sg (chr (D.getD i 0))) (D.getD (i + 4) 0 % 3).toNat)), none, none] H'
    generalize repS (sg (chr (D.getD i 0))) (D.getD (i + 4) 0 % 3).toNat = hd at hH hHl
    obtain ⟨z, hz, hz0, hz38⟩ : ∃ z, (D.getD 0 0 + 9 * (0 + (i : Int)) + D.getD (i + 4) 0 % 5) % 38 = z ∧ 0 ≤ z ∧ z < 38 := ⟨_, rfl, by omega, by omega⟩
    refine ⟨_, rfl, .inl ⟨rfl, _, SqL.of hK⟩, _, rfl, _, rfl, _, rfl, pN, _, _, _, rfl, rfl, SqL.of hN', at_dd (D := D) 0 rfl (by omega), ?_⟩
    refine ⟨_, rfl, _, _, rfl, rfl, .inl ⟨by decide, by decide⟩, _, _, rfl, rfl, ?_⟩
    refine ⟨_, rfl, _, rfl, _, _, rfl, rfl, pN, _, _, _, rfl, rfl, SqL.of hN', at_dd (D := D) (i + 4) (by omega) (by omega), .inl ⟨_, rfl, _, _, rfl, rfl, by show (0 : Int) < _; decide, _, _, rfl, rfl, .inl ⟨_, rfl, _, _, rfl, rfl, by show (0 : Int) < _; decide, ?_⟩⟩⟩
    refine ⟨_, _, chr z, rfl, rfl, hAl, (by show atI AL.cps.toList ((D.getD 0 0 + 9 * (0 + (i : Int)) + D.getD (i + 4) 0 % 5) % 38) = _; rw [hz]; exact chr_at z hz0 hz38), _, _, rfl, rfl, (by exact szle (by show hd.length + 1 ≤ _; omega)), _, _, _, rfl, rfl, hK, szl (by rw [List.length_map]; omega), ?_⟩
    have hpn : pN ≠ pk := ne_of_none hN npk
    refine ⟨_, _, ks ++ [hd ++ sg (chr z)], rfl, same_mut sA npk0, ?_, by rw [upd_same, List.map_append]; rfl, by rw [List.length_append, hl]; rfl, ?_⟩
    · show upd _ _ _ _ = _
      rw [upd_ne hpn]
      exact hN'
    · intro k h
      rcases List.mem_append.mp h with q | q
      · exact hk k q
      · have : k = hd ++ sg (chr z) := by simpa using q
        rw [this]
        refine ⟨app_al hH (chr_al hz0 hz38), ?_, ?_⟩ <;> rw [app_len, sg_len] <;> omega
  rintro σ H2 ⟨v4, v5, ks, rfl, sA, hN', hK, hl, hk⟩
  clear hg hN' hN2 s2
  refine ⟨Nat.zero_le _, fun po npo => ?_⟩
  have npo0 : H po = none := sA.free npo
  have s3 := sA.trans (same_new (o := .lst []) npo)
  have hK3 := same_new (o := .lst []) npo _ _ hK
  have hO3 : upd H2 po (.lst []) po = some (.lst (([] : List Str).map V.str)) := upd_same
  show tSeq _ _ _ _ (upd H2 po (.lst []))
  generalize upd H2 po (.lst []) = H3 at s3 hK3 hO3
  refine ⟨_, rfl, pk, ks, rfl, SqL.of hK3, by omega, fun ys p hperm hsort np => ?_⟩
  have hyl : ys.length = 4 := by rw [hperm.length_eq, hl]
  have hyk : kOk ys 3 := fun k h => hk k (hperm.mem_iff.mp h)
  have hpo : po ≠ p := ne_of_none hO3 np
  have s4 := s3.trans (same_new (o := .lst (ys.map V.str)) np)
  have hO4 := same_new (o := .lst (ys.map V.str)) np _ _ hO3
  have hP : upd H3 p (.lst (ys.map V.str)) p = some (.lst (ys.map V.str)) := upd_same
  refine ⟨p, rfl, ⟨_, SqL.of hP⟩, ?_⟩
  generalize upd H3 p (.lst (ys.map V.str)) = H4 at s4 hO4 hP
  refine for_list (K := K) (a := p) (xs := ys.map V.str) (fun i σ H' => ∃ v7, ∃ os : List Str, σ = [some (.int c), some (.str AL), some (.ref pN), some (.ref pk), v4, v5, some (.ref po), v7] ∧ Same H H' ∧ H' p = some (.lst (ys.map V.str)) ∧ H' po = some (.lst (os.map V.str)) ∧ os.length ≤ i ∧ (0 < i → 0 < os.length) ∧ kOk os 3) ⟨none, [], rfl, s4, hP, hO4, Nat.le_refl _, fun h => absurd h (by decide), fun k h => by simp at h⟩ (fun i σ H' _ ⟨_, _, _, _, h, _⟩ => SqL.of h) ?_ ?_
  · rintro i x σ H' hx ⟨v7, os, rfl, sB, hp, hO, hl1, hl2, hko⟩
    obtain ⟨t, ht, rfl⟩ := mem_str hx
    refine ⟨_, rfl, _, rfl, po, os.map V.str, rfl, .inl (SqL.of hO), rfl, flat_strs os, _, rfl, ?_⟩
    rw [inV_str]
    by_cases cc : t ∈ os
    · exact ifF (by rw [decide_eq_true cc]; rfl) ⟨_, os, rfl, sB, hp, hO, by omega, fun _ => List.length_pos_of_mem cc, hko⟩
    · refine ifT (by rw [decide_eq_false cc]; rfl) ⟨_, rfl, .inl ⟨rfl, _, SqL.of hO⟩, _, rfl, _, _, _, rfl, rfl, hO, szl (by rw [List.length_map]; have := (List.getElem?_eq_some_iff.mp ht).1; omega), ?_⟩
      refine ⟨_, os ++ [t], rfl, same_mut sB npo0, by rw [upd_ne (Ne.symm hpo)]; exact hp, by rw [upd_same, List.map_append]; rfl, by rw [List.length_append]; show os.length + 1 ≤ _; omega, fun _ => by rw [List.length_append]; show 0 < os.length + 1; omega, ?_⟩
      intro k h
      rcases List.mem_append.mp h with q | q
      · exact hko k q
      · have : k = t := by simpa using q
        rw [this]
        exact hyk t (List.mem_of_getElem? ht)
  rintro σ H5 ⟨v7, os, rfl, sB, hp, hO, hl1, hl2, hko⟩
  rw [List.length_map, hyl] at hl1 hl2
  have hl2 := hl2 (by decide)
  refine ⟨fun m σ H' => ∃ os : List Str, m = 4 - os.length ∧ σ = [some (.int c), some (.str AL), some (.ref pN), some (.ref pk), v4, v5, some (.ref po), v7] ∧ Same H H' ∧ H' po = some (.lst (os.map V.str)) ∧ 1 ≤ os.length ∧ os.length ≤ 4 ∧ kOk os (2 + os.length), ⟨_, os, rfl, rfl, sB, hO, hl2, hl1, fun k h => by have := hko k h; exact ⟨this.1, this.2.1, by omega⟩⟩, ?_⟩
  rintro m σ H' ⟨os, rfl, rfl, sC, hO, ho1, ho4, hko⟩
  refine ⟨_, rfl, _, _, rfl, .inl ⟨_, SqL.of hO, rfl⟩, _, _, rfl, rfl, _, rfl, iteD (fun cc => ?_) (fun cc => ?_)⟩
  · rw [List.length_map] at cc
    refine ⟨fun σ' H' => _, fun _ _ h => h, ?_⟩
    obtain ⟨t, htl⟩ : ∃ t, os[os.length - 1]? = some t := ⟨_, List.getElem?_eq_getElem (by omega)⟩
    have htm := List.mem_of_getElem? htl
    obtain ⟨hta, ht1, ht2⟩ := hko t htm
    refine ⟨_, rfl, .inl ⟨rfl, _, SqL.of hO⟩, _, rfl, _, rfl, po, _, _, .str t, rfl, rfl, SqL.of hO, ?_, _, _, rfl, rfl, (by exact szle (by show t.length + 1 ≤ _; omega)), _, _, _, rfl, rfl, hO, szl (by rw [List.length_map]; omega), ?_⟩
    · unfold atI ixN
      rw [if_neg (by decide), if_pos (by rw [List.length_map]; omega), List.length_map]
      show (os.map V.str)[((-1 : Int) + (os.length : Nat)).toNat]? = _
      rw [show ((-1 : Int) + (os.length : Nat)).toNat = os.length - 1 by omega, List.getElem?_map, htl]
      rfl
    · refine ⟨4 - (os ++ [t ++ ("a" : Str)]).length, by rw [List.length_append]; show 4 - (os.length + 1) < _; omega, os ++ [t ++ ("a" : Str)], rfl, rfl, same_mut sC npo0, by rw [upd_same, List.map_append]; rfl, by rw [List.length_append]; omega, by rw [List.length_append]; show os.length + 1 ≤ _; omega, ?_⟩
      intro k h
      rw [List.length_append]
      show alT k ∧ 1 ≤ k.length ∧ k.length ≤ 2 + (os.length + 1)
      rcases List.mem_append.mp h with q | q
      · have := hko k q
        exact ⟨this.1, this.2.1, by omega⟩
      · have : k = t ++ ("a" : Str) := by simpa using q
        rw [this]
        refine ⟨app_al hta (by decide +kernel), ?_, ?_⟩ <;> rw [app_len] <;> show _ + 1 ≤ _ <;> omega
  · rw [List.length_map] at cc
    exact ⟨_, rfl, h1 po os _ sC npo0 (by omega) (fun k h => by have := hko k h; exact ⟨this.1, this.2.1, by omega⟩) hO⟩

--PART /work/steering/wip/parts/like2.lean
/-! ### values that are alike -/
inductive Sc : V → Prop
  | non : Sc .non
  | int (i : Int) : Sc (.int i)
  | bl (b : Bool) : Sc (.bl b)
  | str (s : Str) : Sc (.str s)
def Lk : Nat → Hp → V → V → Prop
  | 0, _, x, y => x = y ∧ Sc x
  | n + 1, H, x, y => (x = y ∧ Sc x) ∨ ∃ (p q : Addr) (xs ys : List V), x = .ref p ∧ y = .ref q ∧ ((H p = some (.lst xs) ∧ H q = some (.lst ys)) ∨ (H p = some (.tup xs) ∧ H q = some (.tup ys))) ∧ xs.length = ys.length ∧ xs.length ≤ 3000 ∧
      ∀ (j : Nat) (x' y' : V), xs[j]? = some x' → ys[j]? = some y' → Lk n H x' y'
theorem Lk.same : ∀ (n : Nat) {H H' : Hp} {x y : V}, Lk n H x y → Same H H' → Lk n H' x y
  | 0, _, _, _, _, h, _ => h
  | n + 1, H, H', x, y, h, s => by
    rcases h with h | ⟨p, q, xs, ys, h1, h2, h3, h4, h5, h6⟩
    · exact .inl h
    · exact .inr ⟨p, q, xs, ys, h1, h2, h3.elim (fun h => .inl ⟨s _ _ h.1, s _ _ h.2⟩) (fun h => .inr ⟨s _ _ h.1, s _ _ h.2⟩), h4, h5, fun j x' y' a b => (h6 j x' y' a b).same n s⟩
def sp__law_like (T : Env K mg) (n : Nat) : Sp := fun vs H Q E => ∃ x y : V, vs = [x, y] ∧ Lk n H x y ∧ ∀ H', Same H H' → Q (.bl true) H'
theorem all_true (n : Nat) : (List.replicate n true).all id = true := by simp
theorem like_sc (T : Env K mg) {Q : VK} {H : Hp} {x : V} : True := trivial
theorem ok__law_like (T : Env K mg) : ∀ n : Nat, FnOk P w K mg base (L2.CX P w) (n + 2) T.a__law_like T.d__law_like ["actual", "due"] (sp__law_like T n) := by
  intro n
  induction n with
  | zero =>
    refine T.F__law_like.okX sc__law_like (fun vs H Q E h => by obtain ⟨_, _, rfl, _⟩ := h; rfl) (fun cdv A outer s H vs Q E hr h => ?_)
    have hu64 := hu64_of hr
    have G__law_like : FnOk P w K mg base (L2.CX P w) 1 T.a__law_like T.d__law_like ["actual", "due"] (fun _ _ _ _ => False) := ⟨fun _ _ _ _ h => h.elim, fun _ _ _ _ _ _ _ _ _ _ _ _ _ h => h.elim⟩
    obtain ⟨x, y, rfl, ⟨rfl, hsc⟩, h1⟩ := h
    refine ⟨_, (pss_cons (ps_if (pt_cmpR op_isN (pv 1) pe_non (nomark _)) (pss_one (ps_ret (pe_cmpR op_isN (pv 0) pe_non (nomark _)))) pss_nil)
      (pss_cons (ps_if (pt_val (pe_callB call_isi (by rfl) T.z_isinstance (by decide +kernel) (pa_cons (pv 1) (pa_cons (pe_bltn (v := .ty "bool") (by rfl) T.z_bool (by decide +kernel) rfl) pa_nil)))) (pss_one (ps_ret (pe_and (pe_callB call_isi (by rfl) T.z_isinstance (by decide +kernel) (pa_cons (pv 0) (pa_cons (pe_bltn (v := .ty "bool") (by rfl) T.z_bool (by decide +kernel) rfl) pa_nil))) (pe_one (pe_cmpR op_eq (pv 0) (pv 1) (nomark _)))))) pss_nil)
      (pss_cons (ps_if (pt_val (pe_callB call_isi (by rfl) T.z_isinstance (by decide +kernel) (pa_cons (pv 1) (pa_cons (pe_bltn (v := .ty "str") (by rfl) T.z_str (by decide +kernel) rfl) pa_nil)))) (pss_one (ps_ret (pe_and (pe_callB call_isi (by rfl) T.z_isinstance (by decide +kernel) (pa_cons (pv 0) (pa_cons (pe_bltn (v := .ty "str") (by rfl) T.z_str (by decide +kernel) rfl) pa_nil))) (pe_one (pe_cmpR op_eq (pv 0) (pv 1) (nomark _)))))) pss_nil)
      (pss_cons (ps_if (pt_val (pe_callB call_isi (by rfl) T.z_isinstance (by decide +kernel) (pa_cons (pv 1) (pa_cons (pe_bltn (v := .ty "int") (by rfl) T.z_int (by decide +kernel) rfl) pa_nil)))) (pss_one (ps_ret (pe_and (pe_callB call_isi (by rfl) T.z_isinstance (by decide +kernel) (pa_cons (pv 0) (pa_cons (pe_bltn (v := .ty "int") (by rfl) T.z_int (by decide +kernel) rfl) pa_nil))) (pe_and (pe_not (pe_callB call_isi (by rfl) T.z_isinstance (by decide +kernel) (pa_cons (pv 0) (pa_cons (pe_bltn (v := .ty "bool") (by rfl) T.z_bool (by decide +kernel) rfl) pa_nil)))) (pe_one (pe_cmpR op_eq (pv 0) (pv 1) (nomark _))))))) pss_nil)
      (pss_cons (ps_if (PW.pt (pw_or (pt_cmpR op_ne (pe_callB call_isi (by rfl) T.z_isinstance (by decide +kernel) (pa_cons (pv 1) (pa_cons (pe_bltn (v := .ty "list") (by rfl) T.z_list (by decide +kernel) rfl) pa_nil))) (pe_callB call_isi (by rfl) T.z_isinstance (by decide +kernel) (pa_cons (pv 0) (pa_cons (pe_bltn (v := .ty "list") (by rfl) T.z_list (by decide +kernel) rfl) pa_nil))) (nomark _)) (pw_or1 (pt_cmpR op_ne (pe_callB call_isi (by rfl) T.z_isinstance (by decide +kernel) (pa_cons (pv 1) (pa_cons (pe_bltn (v := .ty "tuple") (by rfl) T.z_tuple (by decide +kernel) rfl) pa_nil))) (pe_callB call_isi (by rfl) T.z_isinstance (by decide +kernel) (pa_cons (pv 0) (pa_cons (pe_bltn (v := .ty "tuple") (by rfl) T.z_tuple (by decide +kernel) rfl) pa_nil))) (nomark _))))) (pss_one (ps_ret pe_bl)) pss_nil)
      (pss_cons (ps_if (pt_cmpR op_ne (pe_callB call_len (by rfl) T.z_len (by decide +kernel) (pa_cons (pv 0) pa_nil)) (pe_callB call_len (by rfl) T.z_len (by decide +kernel) (pa_cons (pv 1) pa_nil)) (nomark _)) (pss_one (ps_ret pe_bl)) pss_nil)
      (pss_one (ps_ret (pe_callB (cr_all rfl) (by rfl) T.z_all (by decide +kernel) (pa_cons (pe_lc (own := [("k", 2)]) (by rfl) sc__law_like.nd (pi_range1 rfl T.z_range (pa_cons (pe_callB call_len (by rfl) T.z_len (by decide +kernel) (pa_cons (pv 1) pa_nil)) pa_nil)) (blkOk_by (own := [("k", 2)]) (N := ["actual", "due", "k"]) (sc := defScope s__law_like) (by decide +kernel)) (fun _ _ _ _ _ => (pg_name (i := 2) sc__law_like.nd rfl (Or.inl rfl))) (fun _ _ _ _ _ => pts_nil) (fun _ _ _ _ _ => (pe_call G__law_like (hr.mono (by omega)) rfl T.g__law_like T.F__law_like.kp T.b__law_like .nil passL (pa_cons (pe_either (pe_ix (ixK (K := K) (r := rIxL) rfl ix_list) (pv 0) (pv 2) (fun _ _ => rfl)) (pe_ix (ixK (K := K) (r := rIxT) rfl ix_tup) (pv 0) (pv 2) (fun _ _ => rfl))) (pa_cons (pe_either (pe_ix (ixK (K := K) (r := rIxL) rfl ix_list) (pv 1) (pv 2) (fun _ _ => rfl)) (pe_ix (ixK (K := K) (r := rIxT) rfl ix_tup) (pv 1) (pv 2) (fun _ _ => rfl))) pa_nil))))) pa_nil)))))))))), ?_⟩
    cases hsc with
    | non =>
      refine ⟨_, rfl, rfl, _, rfl, ifT (by simp) ?_⟩
      exact ⟨_, rfl, rfl, by simpa using h1 _ (Same.refl _)⟩
    | bl b =>
      refine ⟨_, rfl, rfl, _, rfl, ifF (by simp) ?_⟩
      refine ⟨_, rfl, _, _, _, _, _, rfl, .ty _, .base (.bl _), kit_ty (b := "bool") (r := true) (by decide +kernel), _, rfl, ifT rfl ?_⟩
      refine ⟨_, rfl, _, _, _, _, _, rfl, .ty _, .base (.bl _), kit_ty (b := "bool") (r := true) (by decide +kernel), _, rfl, iteT ?_⟩
      refine ⟨_, rfl, _, rfl, by cases b <;> rfl, ?_⟩
      rw [decide_eq_true rfl]
      exact h1 _ (Same.refl _)
    | str z =>
      refine ⟨_, rfl, rfl, _, rfl, ifF (by simp) ?_⟩
      refine ⟨_, rfl, _, _, _, _, _, rfl, .ty _, .base (.str _), kit_ty (b := "bool") (r := false) (by decide +kernel), _, rfl, ifF rfl ?_⟩
      refine ⟨_, rfl, _, _, _, _, _, rfl, .ty _, .base (.str _), kit_ty (b := "str") (r := true) (by decide +kernel), _, rfl, ifT rfl ?_⟩
      refine ⟨_, rfl, _, _, _, _, _, rfl, .ty _, .base (.str _), kit_ty (b := "str") (r := true) (by decide +kernel), _, rfl, iteT ?_⟩
      refine ⟨_, rfl, _, rfl, rfl, ?_⟩
      rw [decide_eq_true rfl]
      exact h1 _ (Same.refl _)
    | int i =>
      refine ⟨_, rfl, rfl, _, rfl, ifF (by simp) ?_⟩
      refine ⟨_, rfl, _, _, _, _, _, rfl, .ty _, .base (.int _), kit_ty (b := "bool") (r := false) (by decide +kernel), _, rfl, ifF rfl ?_⟩
      refine ⟨_, rfl, _, _, _, _, _, rfl, .ty _, .base (.int _), kit_ty (b := "str") (r := false) (by decide +kernel), _, rfl, ifF rfl ?_⟩
      refine ⟨_, rfl, _, _, _, _, _, rfl, .ty _, .base (.int _), kit_ty (b := "int") (r := true) (by decide +kernel), _, rfl, ifT rfl ?_⟩
      refine ⟨_, rfl, _, _, _, _, _, rfl, .ty _, .base (.int _), kit_ty (b := "int") (r := true) (by decide +kernel), _, rfl, iteT ?_⟩
      refine ⟨_, rfl, _, _, _, _, _, rfl, .ty _, .base (.int _), kit_ty (b := "bool") (r := false) (by decide +kernel), _, rfl, _, rfl, iteT ?_⟩
      refine ⟨_, rfl, _, rfl, rfl, ?_⟩
      rw [decide_eq_true rfl]
      exact h1 _ (Same.refl _)
  | succ n ih =>
    refine T.F__law_like.okX sc__law_like (fun vs H Q E h => by obtain ⟨_, _, rfl, _⟩ := h; rfl) (fun cdv A outer s H vs Q E hr h => ?_)
    have hu64 := hu64_of hr
    have G__law_like := ih
    obtain ⟨x, y, rfl, h, h1⟩ := h
    refine ⟨_, (pss_cons (ps_if (pt_cmpR op_isN (pv 1) pe_non (nomark _)) (pss_one (ps_ret (pe_cmpR op_isN (pv 0) pe_non (nomark _)))) pss_nil)
      (pss_cons (ps_if (pt_val (pe_callB call_isi (by rfl) T.z_isinstance (by decide +kernel) (pa_cons (pv 1) (pa_cons (pe_bltn (v := .ty "bool") (by rfl) T.z_bool (by decide +kernel) rfl) pa_nil)))) (pss_one (ps_ret (pe_and (pe_callB call_isi (by rfl) T.z_isinstance (by decide +kernel) (pa_cons (pv 0) (pa_cons (pe_bltn (v := .ty "bool") (by rfl) T.z_bool (by decide +kernel) rfl) pa_nil))) (pe_one (pe_cmpR op_eq (pv 0) (pv 1) (nomark _)))))) pss_nil)
      (pss_cons (ps_if (pt_val (pe_callB call_isi (by rfl) T.z_isinstance (by decide +kernel) (pa_cons (pv 1) (pa_cons (pe_bltn (v := .ty "str") (by rfl) T.z_str (by decide +kernel) rfl) pa_nil)))) (pss_one (ps_ret (pe_and (pe_callB call_isi (by rfl) T.z_isinstance (by decide +kernel) (pa_cons (pv 0) (pa_cons (pe_bltn (v := .ty "str") (by rfl) T.z_str (by decide +kernel) rfl) pa_nil))) (pe_one (pe_cmpR op_eq (pv 0) (pv 1) (nomark _)))))) pss_nil)
      (pss_cons (ps_if (pt_val (pe_callB call_isi (by rfl) T.z_isinstance (by decide +kernel) (pa_cons (pv 1) (pa_cons (pe_bltn (v := .ty "int") (by rfl) T.z_int (by decide +kernel) rfl) pa_nil)))) (pss_one (ps_ret (pe_and (pe_callB call_isi (by rfl) T.z_isinstance (by decide +kernel) (pa_cons (pv 0) (pa_cons (pe_bltn (v := .ty "int") (by rfl) T.z_int (by decide +kernel) rfl) pa_nil))) (pe_and (pe_not (pe_callB call_isi (by rfl) T.z_isinstance (by decide +kernel) (pa_cons (pv 0) (pa_cons (pe_bltn (v := .ty "bool") (by rfl) T.z_bool (by decide +kernel) rfl) pa_nil)))) (pe_one (pe_cmpR op_eq (pv 0) (pv 1) (nomark _))))))) pss_nil)
      (pss_cons (ps_if (PW.pt (pw_or (pt_cmpR op_ne (pe_callB call_isi (by rfl) T.z_isinstance (by decide +kernel) (pa_cons (pv 1) (pa_cons (pe_bltn (v := .ty "list") (by rfl) T.z_list (by decide +kernel) rfl) pa_nil))) (pe_callB call_isi (by rfl) T.z_isinstance (by decide +kernel) (pa_cons (pv 0) (pa_cons (pe_bltn (v := .ty "list") (by rfl) T.z_list (by decide +kernel) rfl) pa_nil))) (nomark _)) (pw_or1 (pt_cmpR op_ne (pe_callB call_isi (by rfl) T.z_isinstance (by decide +kernel) (pa_cons (pv 1) (pa_cons (pe_bltn (v := .ty "tuple") (by rfl) T.z_tuple (by decide +kernel) rfl) pa_nil))) (pe_callB call_isi (by rfl) T.z_isinstance (by decide +kernel) (pa_cons (pv 0) (pa_cons (pe_bltn (v := .ty "tuple") (by rfl) T.z_tuple (by decide +kernel) rfl) pa_nil))) (nomark _))))) (pss_one (ps_ret pe_bl)) pss_nil)
      (pss_cons (ps_if (pt_cmpR op_ne (pe_callB call_len (by rfl) T.z_len (by decide +kernel) (pa_cons (pv 0) pa_nil)) (pe_callB call_len (by rfl) T.z_len (by decide +kernel) (pa_cons (pv 1) pa_nil)) (nomark _)) (pss_one (ps_ret pe_bl)) pss_nil)
      (pss_one (ps_ret (pe_callB (cr_all rfl) (by rfl) T.z_all (by decide +kernel) (pa_cons (pe_lc (own := [("k", 2)]) (by rfl) sc__law_like.nd (pi_range1 rfl T.z_range (pa_cons (pe_callB call_len (by rfl) T.z_len (by decide +kernel) (pa_cons (pv 1) pa_nil)) pa_nil)) (blkOk_by (own := [("k", 2)]) (N := ["actual", "due", "k"]) (sc := defScope s__law_like) (by decide +kernel)) (fun _ _ _ _ _ => (pg_name (i := 2) sc__law_like.nd rfl (Or.inl rfl))) (fun _ _ _ _ _ => pts_nil) (fun _ _ _ _ _ => (pe_call G__law_like (hr.mono (by omega)) rfl T.g__law_like T.F__law_like.kp T.b__law_like .nil passL (pa_cons (pe_either (pe_ix (ixK (K := K) (r := rIxL) rfl ix_list) (pv 0) (pv 2) (fun _ _ => rfl)) (pe_ix (ixK (K := K) (r := rIxT) rfl ix_tup) (pv 0) (pv 2) (fun _ _ => rfl))) (pa_cons (pe_either (pe_ix (ixK (K := K) (r := rIxL) rfl ix_list) (pv 1) (pv 2) (fun _ _ => rfl)) (pe_ix (ixK (K := K) (r := rIxT) rfl ix_tup) (pv 1) (pv 2) (fun _ _ => rfl))) pa_nil))))) pa_nil)))))))))), ?_⟩
    rcases h with ⟨rfl, hsc⟩ | ⟨p, q, xs, ys, rfl, rfl, h3, hl, hl2, hj⟩
    · cases hsc with
      | non =>
        refine ⟨_, rfl, rfl, _, rfl, ifT (by simp) ?_⟩
        exact ⟨_, rfl, rfl, by simpa using h1 _ (Same.refl _)⟩
      | bl b =>
        refine ⟨_, rfl, rfl, _, rfl, ifF (by simp) ?_⟩
        refine ⟨_, rfl, _, _, _, _, _, rfl, .ty _, .base (.bl _), kit_ty (b := "bool") (r := true) (by decide +kernel), _, rfl, ifT rfl ?_⟩
        refine ⟨_, rfl, _, _, _, _, _, rfl, .ty _, .base (.bl _), kit_ty (b := "bool") (r := true) (by decide +kernel), _, rfl, iteT ?_⟩
        refine ⟨_, rfl, _, rfl, by cases b <;> rfl, ?_⟩
        rw [decide_eq_true rfl]
        exact h1 _ (Same.refl _)
      | str z =>
        refine ⟨_, rfl, rfl, _, rfl, ifF (by simp) ?_⟩
        refine ⟨_, rfl, _, _, _, _, _, rfl, .ty _, .base (.str _), kit_ty (b := "bool") (r := false) (by decide +kernel), _, rfl, ifF rfl ?_⟩
        refine ⟨_, rfl, _, _, _, _, _, rfl, .ty _, .base (.str _), kit_ty (b := "str") (r := true) (by decide +kernel), _, rfl, ifT rfl ?_⟩
        refine ⟨_, rfl, _, _, _, _, _, rfl, .ty _, .base (.str _), kit_ty (b := "str") (r := true) (by decide +kernel), _, rfl, iteT ?_⟩
        refine ⟨_, rfl, _, rfl, rfl, ?_⟩
        rw [decide_eq_true rfl]
        exact h1 _ (Same.refl _)
      | int i =>
        refine ⟨_, rfl, rfl, _, rfl, ifF (by simp) ?_⟩
        refine ⟨_, rfl, _, _, _, _, _, rfl, .ty _, .base (.int _), kit_ty (b := "bool") (r := false) (by decide +kernel), _, rfl, ifF rfl ?_⟩
        refine ⟨_, rfl, _, _, _, _, _, rfl, .ty _, .base (.int _), kit_ty (b := "str") (r := false) (by decide +kernel), _, rfl, ifF rfl ?_⟩
        refine ⟨_, rfl, _, _, _, _, _, rfl, .ty _, .base (.int _), kit_ty (b := "int") (r := true) (by decide +kernel), _, rfl, ifT rfl ?_⟩
        refine ⟨_, rfl, _, _, _, _, _, rfl, .ty _, .base (.int _), kit_ty (b := "int") (r := true) (by decide +kernel), _, rfl, iteT ?_⟩
        refine ⟨_, rfl, _, _, _, _, _, rfl, .ty _, .base (.int _), kit_ty (b := "bool") (r := false) (by decide +kernel), _, rfl, _, rfl, iteT ?_⟩
        refine ⟨_, rfl, _, rfl, rfl, ?_⟩
        rw [decide_eq_true rfl]
        exact h1 _ (Same.refl _)
    · refine ⟨_, rfl, rfl, _, rfl, ifF (by simp) ?_⟩
      rcases h3 with ⟨hp, hq⟩ | ⟨hp, hq⟩
      · refine ⟨_, rfl, _, _, _, _, _, rfl, .ty _, .base (.lst hq), kit_ty (b := "bool") (r := false) (by decide +kernel), _, rfl, ifF rfl ?_⟩
        refine ⟨_, rfl, _, _, _, _, _, rfl, .ty _, .base (.lst hq), kit_ty (b := "str") (r := false) (by decide +kernel), _, rfl, ifF rfl ?_⟩
        refine ⟨_, rfl, _, _, _, _, _, rfl, .ty _, .base (.lst hq), kit_ty (b := "int") (r := false) (by decide +kernel), _, rfl, ifF rfl ?_⟩
        refine ⟨_, rfl, _, _, _, _, _, rfl, .ty _, .base (.lst hq), kit_ty (b := "list") (r := true) (by decide +kernel), _, rfl, _, _, _, _, _, rfl, .ty _, .base (.lst hp), kit_ty (b := "list") (r := true) (by decide +kernel), rfl, _, rfl, ifF (by decide) ?_⟩
        refine ⟨_, rfl, _, _, _, _, _, rfl, .ty _, .base (.lst hq), kit_ty (b := "tuple") (r := false) (by decide +kernel), _, rfl, _, _, _, _, _, rfl, .ty _, .base (.lst hp), kit_ty (b := "tuple") (r := false) (by decide +kernel), rfl, _, rfl, ifF (by decide) ?_⟩
        refine ⟨_, rfl, _, _, rfl, .inl ⟨_, SqL.of hp, rfl⟩, _, rfl, _, _, rfl, .inl ⟨_, SqL.of hq, rfl⟩, rfl, _, rfl, ifF (by rw [hl]; simp) ?_⟩
        refine ⟨_, rfl, _, _, rfl, .inl ⟨_, SqL.of hq, rfl⟩, _, rfl, by omega, by omega, fun D hD => ?_⟩
        rw [Int.toNat_natCast]
        refine lc_range (fun i H' => Same H H' ∧ H' D = some (.lst ((List.replicate i true).map V.bl))) ⟨same_new hD, upd_same⟩ ?_ ?_
        · rintro i H' hi ⟨sA, hDD⟩
          obtain ⟨y', hy'⟩ : ∃ y', ys[i]? = some y' := ⟨_, List.getElem?_eq_getElem hi⟩
          obtain ⟨x', hx'⟩ : ∃ x', xs[i]? = some x' := ⟨_, List.getElem?_eq_getElem (by omega)⟩
          have hii : (0 : Int) + (i : Int) = ((i : Nat) : Int) := by omega
          refine ⟨rfl, yes_if ?_⟩
          refine .inl ⟨_, rfl, _, rfl, p, _, _, x', rfl, rfl, SqL.of (sA _ _ hp), (by rw [hii]; exact atI_nat hx'), .inl ⟨_, rfl, _, rfl, q, _, _, y', rfl, rfl, SqL.of (sA _ _ hq), (by rw [hii]; exact atI_nat hy'), ?_⟩⟩
          refine ⟨x', y', rfl, (hj i x' y' hx' hy').same n sA, fun H2 s2 => ⟨_, s2 _ _ hDD, szl (by rw [List.length_map, List.length_replicate]; omega), same_mut (sA.trans s2) hD, ?_⟩⟩
          rw [upd_same, List.replicate_succ', List.map_append]
          rfl
        · rintro H' ⟨sA, hDD⟩
          exact ⟨D, _, rfl, SqL.of hDD, by rw [all_true]; exact h1 _ sA⟩
      · refine ⟨_, rfl, _, _, _, _, _, rfl, .ty _, .base (.tup hq), kit_ty (b := "bool") (r := false) (by decide +kernel), _, rfl, ifF rfl ?_⟩
        refine ⟨_, rfl, _, _, _, _, _, rfl, .ty _, .base (.tup hq), kit_ty (b := "str") (r := false) (by decide +kernel), _, rfl, ifF rfl ?_⟩
        refine ⟨_, rfl, _, _, _, _, _, rfl, .ty _, .base (.tup hq), kit_ty (b := "int") (r := false) (by decide +kernel), _, rfl, ifF rfl ?_⟩
        refine ⟨_, rfl, _, _, _, _, _, rfl, .ty _, .base (.tup hq), kit_ty (b := "list") (r := false) (by decide +kernel), _, rfl, _, _, _, _, _, rfl, .ty _, .base (.tup hp), kit_ty (b := "list") (r := false) (by decide +kernel), rfl, _, rfl, ifF (by decide) ?_⟩
        refine ⟨_, rfl, _, _, _, _, _, rfl, .ty _, .base (.tup hq), kit_ty (b := "tuple") (r := true) (by decide +kernel), _, rfl, _, _, _, _, _, rfl, .ty _, .base (.tup hp), kit_ty (b := "tuple") (r := true) (by decide +kernel), rfl, _, rfl, ifF (by decide) ?_⟩
        refine ⟨_, rfl, _, _, rfl, .inr ⟨_, SqT.of hp, rfl⟩, _, rfl, _, _, rfl, .inr ⟨_, SqT.of hq, rfl⟩, rfl, _, rfl, ifF (by rw [hl]; simp) ?_⟩
        refine ⟨_, rfl, _, _, rfl, .inr ⟨_, SqT.of hq, rfl⟩, _, rfl, by omega, by omega, fun D hD => ?_⟩
        rw [Int.toNat_natCast]
        refine lc_range (fun i H' => Same H H' ∧ H' D = some (.lst ((List.replicate i true).map V.bl))) ⟨same_new hD, upd_same⟩ ?_ ?_
        · rintro i H' hi ⟨sA, hDD⟩
          obtain ⟨y', hy'⟩ : ∃ y', ys[i]? = some y' := ⟨_, List.getElem?_eq_getElem hi⟩
          obtain ⟨x', hx'⟩ : ∃ x', xs[i]? = some x' := ⟨_, List.getElem?_eq_getElem (by omega)⟩
          have hii : (0 : Int) + (i : Int) = ((i : Nat) : Int) := by omega
          refine ⟨rfl, yes_if ?_⟩
          refine .inr ⟨_, rfl, _, rfl, p, _, _, x', rfl, rfl, SqT.of (sA _ _ hp), (by rw [hii]; exact atI_nat hx'), .inr ⟨_, rfl, _, rfl, q, _, _, y', rfl, rfl, SqT.of (sA _ _ hq), (by rw [hii]; exact atI_nat hy'), ?_⟩⟩
          refine ⟨x', y', rfl, (hj i x' y' hx' hy').same n sA, fun H2 s2 => ⟨_, s2 _ _ hDD, szl (by rw [List.length_map, List.length_replicate]; omega), same_mut (sA.trans s2) hD, ?_⟩⟩
          rw [upd_same, List.replicate_succ', List.map_append]
          rfl
        · rintro H' ⟨sA, hDD⟩
          exact ⟨D, _, rfl, SqL.of hDD, by rw [all_true]; exact h1 _ sA⟩

--PART /work/steering/wip/parts/gdict.lean
/-! ### dicts by lists of keys and values -/
section
variable {κ β : Type} [DecidableEq κ]
def gget (M : List (κ × β)) (k : κ) : Option β := (M.find? fun kv => decide (kv.1 = k)).map (·.2)
def gput (M : List (κ × β)) (k : κ) (v : β) : List (κ × β) := if (M.any fun kv => decide (kv.1 = k)) = true then M.map (fun kv => if kv.1 = k then (kv.1, v) else kv) else M ++ [(k, v)]
def gdrop (M : List (κ × β)) (k : κ) : List (κ × β) := M.filter fun kv => decide (kv.1 ≠ k)
def toD (f : κ → Key) (g : β → V) (M : List (κ × β)) : List (Key × V) := M.map fun kv => (f kv.1, g kv.2)
def gkeys (M : List (κ × β)) : List κ := M.map (·.1)
variable {f : κ → Key} {g : β → V}
theorem deq {a b : κ} (hf : ∀ a b, f a = f b → a = b) : decide (f a = f b) = decide (a = b) := by
  by_cases h : a = b
  · rw [decide_eq_true (show f a = f b by rw [h]), decide_eq_true h]
  · rw [decide_eq_false (fun q => h (hf _ _ q)), decide_eq_false h]
theorem toD_get (hf : ∀ a b, f a = f b → a = b) (M : List (κ × β)) (k : κ) : valV (toD f g M) (f k) = (gget M k).map g := by
  unfold valV gget toD
  induction M with
  | nil => rfl
  | cons a r ih =>
    rw [List.map_cons, List.find?_cons, List.find?_cons, deq hf]
    cases decide (a.1 = k) with
    | true => rfl
    | false => exact ih
theorem toD_any (hf : ∀ a b, f a = f b → a = b) (M : List (κ × β)) (k : κ) : ((toD f g M).any fun kv => decide (kv.1 = f k)) = M.any fun kv => decide (kv.1 = k) := by
  unfold toD
  induction M with
  | nil => rfl
  | cons a r ih => rw [List.map_cons, List.any_cons, List.any_cons, ih, deq hf]
theorem toD_put (hf : ∀ a b, f a = f b → a = b) (M : List (κ × β)) (k : κ) (v : β) : putK (toD f g M) (f k) (g v) = toD f g (gput M k v) := by
  unfold putK gput
  rw [toD_any hf]
  by_cases h : (M.any fun kv => decide (kv.1 = k)) = true
  · rw [if_pos h, if_pos h]
    unfold toD
    rw [List.map_map, List.map_map]
    refine List.map_congr_left fun a _ => ?_
    show (if f a.1 = f k then (f a.1, g v) else (f a.1, g a.2)) = (fun kv : κ × β => (f kv.1, g kv.2)) (if a.1 = k then (a.1, v) else a)
    by_cases c : a.1 = k
    · rw [if_pos (by rw [c]), if_pos c]
    · rw [if_neg (fun q => c (hf _ _ q)), if_neg c]
  · rw [if_neg h, if_neg h]
    unfold toD
    rw [List.map_append]
    rfl
theorem toD_drop (hf : ∀ a b, f a = f b → a = b) (M : List (κ × β)) (k : κ) : dropK (toD f g M) (f k) = toD f g (gdrop M k) := by
  unfold dropK gdrop toD
  induction M with
  | nil => rfl
  | cons a r ih =>
    rw [List.map_cons, List.filter_cons, List.filter_cons]
    by_cases c : a.1 = k
    · rw [if_neg (by simp [c]), if_neg (by simp [c])]
      exact ih
    · rw [if_pos (by simpa using fun q => c (hf _ _ q)), if_pos (by simpa using c), List.map_cons, ih]
theorem gmem (M : List (κ × β)) (k : κ) : ((M.any fun kv => decide (kv.1 = k)) = true) ↔ k ∈ gkeys M := by
  rw [List.any_eq_true]
  constructor
  · rintro ⟨x, hx, h⟩
    exact List.mem_map.mpr ⟨x, hx, by simpa using h⟩
  · intro h
    obtain ⟨x, hx, h⟩ := List.mem_map.mp h
    exact ⟨x, hx, by simpa using h⟩
theorem gget_some {M : List (κ × β)} {k : κ} {v : β} (h : gget M k = some v) : (k, v) ∈ M := by
  unfold gget at h
  cases q : M.find? fun kv => decide (kv.1 = k) with
  | none => rw [q] at h; cases h
  | some y =>
    rw [q] at h
    have e : y.1 = k := by simpa using List.find?_some q
    have hm := List.mem_of_find?_eq_some q
    have e2 : y.2 = v := Option.some.inj h
    rw [← e, ← e2]
    exact hm
theorem gget_none {M : List (κ × β)} {k : κ} : gget M k = none ↔ k ∉ gkeys M := by
  unfold gget
  rw [← gmem]
  cases q : M.find? fun kv => decide (kv.1 = k) with
  | none =>
    refine ⟨fun _ h => ?_, fun _ => rfl⟩
    obtain ⟨x, hx, e⟩ := List.any_eq_true.mp h
    exact List.find?_eq_none.mp q x hx e
  | some y =>
    refine ⟨fun h => (by cases h), fun h => absurd (List.any_eq_true.mpr ⟨y, List.mem_of_find?_eq_some q, List.find?_some q⟩) h⟩
theorem gget_mem {M : List (κ × β)} (hn : (gkeys M).Nodup) {k : κ} {v : β} (h : (k, v) ∈ M) : gget M k = some v := by
  induction M with
  | nil => cases h
  | cons a r ih =>
    have hn2 := List.nodup_cons.mp (show (a.1 :: gkeys r).Nodup from hn)
    unfold gget
    rw [List.find?_cons]
    rcases List.mem_cons.mp h with e | e
    · subst e
      rw [decide_eq_true rfl]
      rfl
    · have : ¬ a.1 = k := fun q => hn2.1 (q ▸ List.mem_map.mpr ⟨(k, v), e, rfl⟩)
      rw [decide_eq_false this]
      exact ih hn2.2 e
theorem gkeys_put (M : List (κ × β)) (k : κ) (v : β) : gkeys (gput M k v) = if k ∈ gkeys M then gkeys M else gkeys M ++ [k] := by
  unfold gput
  by_cases c : k ∈ gkeys M
  · rw [if_pos ((gmem M k).mpr c), if_pos c]
    unfold gkeys
    rw [List.map_map]
    refine List.map_congr_left fun a _ => ?_
    show (if a.1 = k then (a.1, v) else a).1 = a.1
    split <;> rfl
  · rw [if_neg (fun q => c ((gmem M k).mp q)), if_neg c]
    unfold gkeys
    rw [List.map_append]
    rfl
theorem gnodup_put {M : List (κ × β)} (h : (gkeys M).Nodup) (k : κ) (v : β) : (gkeys (gput M k v)).Nodup := by
  rw [gkeys_put]
  split
  · exact h
  · rename_i c
    exact List.nodup_append.mpr ⟨h, by simp, fun x hx y hy => by
      have : y = k := by simpa using hy
      rw [this]
      exact fun q => c (q ▸ hx)⟩
theorem gkeys_drop (M : List (κ × β)) (k : κ) : gkeys (gdrop M k) = (gkeys M).filter fun j => decide (j ≠ k) := by
  unfold gkeys gdrop
  rw [List.filter_map]
  rfl
theorem gnodup_drop {M : List (κ × β)} (h : (gkeys M).Nodup) (k : κ) : (gkeys (gdrop M k)).Nodup := by
  rw [gkeys_drop]
  exact h.filter _
theorem gput_len (M : List (κ × β)) (k : κ) (v : β) : (gput M k v).length ≤ M.length + 1 := by
  unfold gput
  split
  · rw [List.length_map]; omega
  · rw [List.length_append]; exact Nat.le_refl _
theorem gput_new {M : List (κ × β)} {k : κ} {v : β} (h : k ∉ gkeys M) : gput M k v = M ++ [(k, v)] := if_neg fun q => h ((gmem M k).mp q)
theorem gdrop_len (M : List (κ × β)) (k : κ) : (gdrop M k).length ≤ M.length := List.length_filter_le _ _
end
theorem inl_inj : ∀ a b : Int, (Sum.inl a : Key) = Sum.inl b → a = b := fun _ _ h => Sum.inl.inj h
theorem inr_inj : ∀ a b : Str, (Sum.inr a : Key) = Sum.inr b → a = b := fun _ _ h => Sum.inr.inj h
theorem dgetI {β : Type} {g : β → V} {H : Hp} {p : Addr} {M : List (Int × β)} (h : H p = some (.dK (toD Sum.inl g M))) (k : Int) : DGet H p (.int k) ((gget M k).map g) := .inl ⟨_, Sum.inl k, .inl h, rfl, (toD_get inl_inj M k).symm⟩
theorem dgetS {β : Type} {g : β → V} {H : Hp} {p : Addr} {M : List (Str × β)} (h : H p = some (.dK (toD Sum.inr g M))) (k : Str) : DGet H p (.str k) ((gget M k).map g) := .inl ⟨_, Sum.inr k, .inl h, rfl, (toD_get inr_inj M k).symm⟩
theorem dputI {β : Type} {g : β → V} {H : Hp} {p : Addr} {M : List (Int × β)} (h : H p = some (.dK (toD Sum.inl g M))) (hl : M.length ≤ 100000) (k : Int) (v : β) : DPut H p (.int k) (g v) (upd H p (.dK (toD Sum.inl g (gput M k v)))) := .inl ⟨_, Sum.inl k, h, rfl, szl (by unfold toD; rw [List.length_map]; omega), by rw [toD_put inl_inj]⟩
theorem dputS {β : Type} {g : β → V} {H : Hp} {p : Addr} {M : List (Str × β)} (h : H p = some (.dK (toD Sum.inr g M))) (hl : M.length ≤ 100000) (k : Str) (v : β) : DPut H p (.str k) (g v) (upd H p (.dK (toD Sum.inr g (gput M k v)))) := .inl ⟨_, Sum.inr k, h, rfl, szl (by unfold toD; rw [List.length_map]; omega), by rw [toD_put inr_inj]⟩

--PART /work/steering/wip/parts/states.lean
def oV : Option Int → V
  | none => .non
  | some i => .int i
abbrev Mp := List (Str × Option Int)
theorem mem_rf {as : List Addr} {i : Nat} {x : V} (hx : (as.map V.ref)[i]? = some x) : ∃ a, as[i]? = some a ∧ x = V.ref a := by
  rw [List.getElem?_map] at hx
  cases e : as[i]? with
  | none => rw [e] at hx; cases hx
  | some u => rw [e] at hx; exact ⟨u, rfl, (Option.some.inj hx).symm⟩
theorem via2p {G : Prop} {R : L2.St → Hp → Prop} (A : L2.St → Hp → Prop) (k : (∀ σ H1, A σ H1 → R σ H1) → G) (fin : ∀ σ H1, A σ H1 → R σ H1) : G := k fin
/-- what is held -/
structure Hd where
  t : Int
  lead : Int
  rs : List Str
  ws : Mp
structure WrAt (H : Hp) (w : Addr) (as : List Addr) (ws : Mp) : Prop where
  at_ : H w = some (.tup (as.map V.ref))
  len : as.length = ws.length
  each : ∀ (j : Nat) (a : Addr), as[j]? = some a → ∃ e, ws[j]? = some e ∧ H a = some (.tup [.str e.1, oV e.2])
theorem WrAt.same {H H' : Hp} {w : Addr} {as : List Addr} {ws : Mp} (h : WrAt H w as ws) (s : ∀ b xs, H b = some (.tup xs) → H' b = some (.tup xs)) : WrAt H' w as ws := ⟨s _ _ h.at_, h.len, fun j a e => by
  obtain ⟨o, h1, h2⟩ := h.each j a e
  exact ⟨o, h1, s _ _ h2⟩⟩
structure HdAt (H : Hp) (a : Addr) (h : Hd) : Prop where
  ex : ∃ r w as, H a = some (.tup [.int h.t, .int h.lead, .ref r, .ref w]) ∧ H r = some (.tup (h.rs.map V.str)) ∧ WrAt H w as h.ws
/-- tuples stay -/
def Tp (H H' : Hp) : Prop := ∀ b xs, H b = some (.tup xs) → H' b = some (.tup xs)
theorem Tp.refl (H : Hp) : Tp H H := fun _ _ h => h
theorem Tp.trans {H H' H'' : Hp} (a : Tp H H') (b : Tp H' H'') : Tp H H'' := fun x xs h => b x xs (a x xs h)
theorem Same.tp {H H' : Hp} (s : Same H H') : Tp H H' := fun b xs h => s b _ h
theorem HdAt.same {H H' : Hp} {a : Addr} {h : Hd} (x : HdAt H a h) (s : Tp H H') : HdAt H' a h := by
  obtain ⟨r, w, as, h1, h2, h3⟩ := x.ex
  exact ⟨r, w, as, s _ _ h1, s _ _ h2, h3.same s⟩
def wk (ws : Mp) : List Str := ws.map (·.1)
def common (ks os : List Str) : Bool := ks.any fun k => decide (k ∈ os)
/-- reads and writes conflict with what is held -/
def meets (rs : List Str) (ws : Mp) (h : Hd) : Bool := common (wk h.ws) (rs ++ wk ws) || common h.rs (wk ws)
theorem any_filter (ks os : List Str) : decide ((((ks.filter fun k => decide (k ∈ os)).length : Nat) : Int) > 0) = common ks os := by
  unfold common
  induction ks with
  | nil => rfl
  | cons k r ih =>
    rw [List.filter_cons, List.any_cons]
    by_cases c : k ∈ os
    · rw [if_pos (decide_eq_true c), decide_eq_true c, Bool.true_or]
      exact decide_eq_true (by rw [List.length_cons]; omega)
    · rw [if_neg (by simpa using c), decide_eq_false c, Bool.false_or]
      exact ih
def sp__have_common (T : Env K mg) : Sp := fun vs H Q E => ∃ (a b : Addr) (ks os : List Str), vs = [.ref a, .ref b] ∧ Sq K H a (ks.map V.str) ∧ SqL K H b (os.map V.str) ∧ ks.length ≤ 400 ∧ ∀ H', Same H H' → Q (.bl (common ks os)) H'
theorem lc_seqv {K : PySem.W.Frag} {a : Addr} {xs : List V} {j : Nat} {g : TG} {tt : TT} {te : TE} {vs : List Nat} {σ : L2.St} {H1 : Hp} {R : Addr → Hp → Prop} (Pv : Addr → Nat → Hp → Prop) (hj : σ[j]? = some (some (V.ref a))) (hS : Sq K H1 a xs)
    (h : ∀ D, H1 D = none → Pv D 0 (upd H1 D (HO.lst [])) ∧ (∀ i H, i ≤ xs.length → Pv D i H → Same H1 H) ∧
      (∀ (i : Nat) (x : V) (H : Hp), xs[i]? = some x → Pv D i H → g x (wipe σ vs) H fun σ2 H2 => wipe σ2 vs = wipe σ vs ∧ tt σ2 H2 fun b H3 => if b = true then te σ2 H3 fun y H4 => ∃ acc, H4 D = some (HO.lst acc) ∧ acc.length < sizeLine ∧ Pv D (i + 1) (upd H4 D (HO.lst (acc ++ [y]))) else Pv D (i + 1) H3) ∧ ∀ H, Pv D xs.length H → R D H) :
    iSeq K (tVar j) σ H1 fun J H1 => ∀ D, H1 D = none → ∃ W : Nat → Nat → Hp → Prop, (∃ m, W 0 m (upd H1 D (HO.lst []))) ∧ ∀ (i m : Nat) (H : Hp), W i m H → (J.stop i H ∧ R D H) ∨ (J.go i H ∧ ∃ Nx : Hp → Prop, (∀ (H' : Hp), Nx H' → ∃ m', m' < m ∧ W (i + 1) m' H') ∧
      ∀ (x : V) (H' : Hp), J.yld i H x H' → g x (wipe σ vs) H' fun σ2 H2 => wipe σ2 vs = wipe σ vs ∧ tt σ2 H2 fun b H3 => if b = true then te σ2 H3 fun y H4 => ∃ acc, H4 D = some (HO.lst acc) ∧ acc.length < sizeLine ∧ Nx (upd H4 D (HO.lst (acc ++ [y]))) else Nx H3) := by
  rcases hS with hS | hS
  · exact .inl ⟨_, hj, a, rfl, ⟨_, hS⟩, fun D hD => lc_list (Pv D) (h D hD).1 (fun i H hi hp => ((h D hD).2.1 i H hi hp).seq hS) (h D hD).2.2.1 (h D hD).2.2.2⟩
  · exact .inr ⟨_, hj, a, rfl, ⟨_, hS⟩, fun D hD => lc_tup (Pv D) (h D hD).1 (fun i H hi hp => sqt_same ((h D hD).2.1 i H hi hp) hS) (h D hD).2.2.1 (h D hD).2.2.2⟩
theorem ok__have_common (T : Env K mg) : FnOk P w K mg base (L2.CX P w) 1 T.a__have_common T.d__have_common ["keys", "others"] (sp__have_common T) := by
  refine T.F__have_common.okX sc__have_common (fun vs H Q E h => by obtain ⟨_, _, _, _, rfl, _⟩ := h; rfl) (fun cdv A outer s H vs Q E hr h => ?_)
  obtain ⟨a, b, ks, os, rfl, hA, hB, hl, h1⟩ := h
  refine ⟨_, (pss_one (ps_ret (pe_cmpR op_gt (pe_callB call_len (by rfl) T.z_len (by decide +kernel) (pa_cons (pe_lc (own := [("key", 2)]) (by rfl) sc__have_common.nd (pi_seq (pv 0)) (blkOk_by (own := [("key", 2)]) (N := ["keys", "others", "key"]) (sc := defScope s__have_common) (by decide +kernel)) (fun _ _ _ _ _ => (pg_name (i := 2) sc__have_common.nd rfl (Or.inl rfl))) (fun _ _ _ _ _ => (pts_one (pt_cmpR (opK (K := K) (r := (fun K => rIn K false)) rfl op_in_seq) (pv 2) (pv 1) rfl))) (fun _ _ _ _ _ => (pv 2))) pa_nil)) pe_int (nomark _)))), ?_⟩
  refine lc_seqv (a := a) (xs := ks.map V.str) (fun D i H' => Same H H' ∧ H' D = some (.lst (((ks.take i).filter fun k => decide (k ∈ os)).map V.str))) rfl hA fun D hD => ⟨⟨same_new hD, upd_same⟩, fun i H' _ h => h.1, ?_, ?_⟩
  · rintro i x H' hx ⟨sA, hp⟩
    obtain ⟨t, ht, rfl⟩ := mem_str hx
    have hi : i < ks.length := (List.getElem?_eq_some_iff.mp ht).1
    have hf := List.length_filter_le (fun k => decide (k ∈ os)) (ks.take i)
    rw [List.length_take] at hf
    refine ⟨rfl, _, rfl, _, rfl, b, os.map V.str, rfl, .inl (sA.seq hB), rfl, flat_strs os, _, rfl, ?_⟩
    show if inV (.str t) (os.map V.str) = true then _ else _
    rw [inV_str]
    by_cases c : t ∈ os
    · refine ifT (decide_eq_true c) ⟨_, rfl, _, hp, szl (by rw [List.length_map]; omega), same_mut sA hD, ?_⟩
      rw [take_succ ht, List.filter_append, show [t].filter (fun k => decide (k ∈ os)) = [t] by rw [List.filter_cons, decide_eq_true c]; rfl, upd_same, List.map_append]
      rfl
    · refine ifF (decide_eq_false c) ⟨sA, ?_⟩
      rw [take_succ ht, List.filter_append, show [t].filter (fun k => decide (k ∈ os)) = [] by rw [List.filter_cons, decide_eq_false c]; rfl, List.append_nil]
      exact hp
  · rintro H' ⟨sA, hp⟩
    rw [List.length_map, List.take_length] at hp
    refine ⟨_, _, rfl, .inl ⟨_, SqL.of hp, rfl⟩, _, _, rfl, rfl, ?_⟩
    rw [List.length_map]
    show Q (V.bl (decide ((((ks.filter fun k => decide (k ∈ os)).length : Nat) : Int) > 0))) H'
    rw [any_filter]
    exact h1 _ sA
/-! ### the state's object -/
theorem sn1 : ¬ (("cells" : Str) = "_floor") := by decide +kernel
theorem sn2 : ¬ (("cells" : Str) = "_held") := by decide +kernel
theorem sn3 : ¬ (("cells" : Str) = "_outcomes") := by decide +kernel
theorem sn4 : ¬ (("_floor" : Str) = "_held") := by decide +kernel
theorem sn5 : ¬ (("_floor" : Str) = "_outcomes") := by decide +kernel
theorem sn6 : ¬ (("_held" : Str) = "_outcomes") := by decide +kernel
def stf (c h o : Addr) (fl : Int) : List (Str × V) := putF "_outcomes" (.ref o) (putF "_held" (.ref h) (putF "_floor" (.int fl) (putF "cells" (.ref c) [])))
theorem stf_eq (c h o : Addr) (fl : Int) : stf c h o fl = ([("cells", V.ref c), ("_floor", V.int fl), ("_held", V.ref h), ("_outcomes", V.ref o)] : List (Str × V)) := by
  unfold stf
  have e1 : putF "_floor" (V.int fl) (putF "cells" (V.ref c) []) = ([("cells", V.ref c), ("_floor", V.int fl)] : List (Str × V)) := by
    show (if ("cells" : Str) = "_floor" then _ else (("cells" : Str), V.ref c) :: putF "_floor" (V.int fl) []) = _
    rw [if_neg sn1]
    rfl
  rw [e1]
  have e2 : putF "_held" (V.ref h) ([("cells", V.ref c), ("_floor", V.int fl)] : List (Str × V)) = ([("cells", V.ref c), ("_floor", V.int fl), ("_held", V.ref h)] : List (Str × V)) := by
    show (if ("cells" : Str) = "_held" then _ else (("cells" : Str), V.ref c) :: (if ("_floor" : Str) = "_held" then _ else (("_floor" : Str), V.int fl) :: putF "_held" (V.ref h) [])) = _
    rw [if_neg sn2, if_neg sn4]
    rfl
  rw [e2]
  show (if ("cells" : Str) = "_outcomes" then _ else (("cells" : Str), V.ref c) :: (if ("_floor" : Str) = "_outcomes" then _ else (("_floor" : Str), V.int fl) :: (if ("_held" : Str) = "_outcomes" then _ else (("_held" : Str), V.ref h) :: putF "_outcomes" (V.ref o) []))) = _
  rw [if_neg sn3, if_neg sn5, if_neg sn6]
  rfl
theorem stf_cells (c h o : Addr) (fl : Int) : (stf c h o fl).lookup ("cells" : Str) = some (.ref c) := by
  unfold stf
  rw [lookup_putF, if_neg sn3, lookup_putF, if_neg sn2, lookup_putF, if_neg sn1, lookup_putF, if_pos rfl]
theorem stf_floor (c h o : Addr) (fl : Int) : (stf c h o fl).lookup ("_floor" : Str) = some (.int fl) := by
  unfold stf
  rw [lookup_putF, if_neg sn5, lookup_putF, if_neg sn4, lookup_putF, if_pos rfl]
theorem stf_held (c h o : Addr) (fl : Int) : (stf c h o fl).lookup ("_held" : Str) = some (.ref h) := by
  unfold stf
  rw [lookup_putF, if_neg sn6, lookup_putF, if_pos rfl]
theorem stf_outs (c h o : Addr) (fl : Int) : (stf c h o fl).lookup ("_outcomes" : Str) = some (.ref o) := by
  unfold stf
  rw [lookup_putF, if_pos rfl]
theorem stf_no (c h o : Addr) (fl : Int) {m : Str} (h1 : ¬ m = "_outcomes") (h2 : ¬ m = "_held") (h3 : ¬ m = "_floor") (h4 : ¬ m = "cells") : (stf c h o fl).lookup m = none := by
  unfold stf
  rw [lookup_putF, if_neg h1, lookup_putF, if_neg h2, lookup_putF, if_neg h3, lookup_putF, if_neg h4]
  rfl
theorem stf_put (c h o : Addr) (fl t : Int) : putF "_floor" (.int t) (stf c h o fl) = stf c h o t := by
  rw [stf_eq, stf_eq]
  show (if ("cells" : Str) = "_floor" then _ else (("cells" : Str), V.ref c) :: (if ("_floor" : Str) = "_floor" then _ else _)) = _
  rw [if_neg sn1, if_pos rfl]
abbrev HM := List (Int × (Addr × Hd))
abbrev hg (e : Addr × Hd) : V := .ref e.1
/-- the held transactions of a dict at d -/
structure HeldAt (H : Hp) (d : Addr) (M : HM) : Prop where
  at_ : H d = some (.dK (toD Sum.inl hg M))
  nd : (gkeys M).Nodup
  each : ∀ e ∈ M, HdAt H e.2.1 e.2.2
theorem HeldAt.same {H H' : Hp} {d : Addr} {M : HM} (h : HeldAt H d M) (s : Same H H') : HeldAt H' d M := ⟨s _ _ h.at_, h.nd, fun e he => (h.each e he).same (Same.tp s)⟩
def ObAt (T : Env K mg) (H : Hp) (a c h o : Addr) (fl : Int) : Prop := ∃ dx, H a = some (.ins T.a_State dx (stf c h o fl))
theorem ObAt.same {T : Env K mg} {H H' : Hp} {a c h o : Addr} {fl : Int} (x : ObAt T H a c h o fl) (s : Same H H') : ObAt T H' a c h o fl := by
  obtain ⟨dx, x⟩ := x
  exact ⟨dx, s _ _ x⟩
theorem keysI (M : HM) : (toD Sum.inl hg M).map (·.1) = (gkeys M).map (Sum.inl : Int → Key) := by
  unfold toD gkeys
  rw [List.map_map, List.map_map]
  rfl
/-- the sorted keys are one list -/
theorem sortI_unique : ∀ (ys zs : List Int), ys.Perm zs → ys.Pairwise (· ≤ ·) → zs.Pairwise (· ≤ ·) → ys = zs
  | [], zs, hp, _, _ => (List.Perm.eq_nil hp.symm).symm
  | y :: ys, [], hp, _, _ => absurd hp.length_eq (by simp)
  | y :: ys, z :: zs, hp, hy, hz => by
    have hy1 := List.pairwise_cons.mp hy
    have hz1 := List.pairwise_cons.mp hz
    have e : y = z := by
      have a1 : y ≤ z := by
        rcases List.mem_cons.mp (hp.mem_iff.mpr (List.mem_cons_self (a := z))) with q | q
        · omega
        · exact hy1.1 z q
      have a2 : z ≤ y := by
        rcases List.mem_cons.mp (hp.mem_iff.mp (List.mem_cons_self (a := y))) with q | q
        · omega
        · exact hz1.1 y q
      omega
    subst e
    rw [sortI_unique ys zs ((List.perm_cons y).mp hp) hy1.2 hz1.2]
def SrtI (ks ys : List Int) : Prop := ys.Perm ks ∧ ys.Pairwise (· ≤ ·)
theorem SrtI.eq {ks ys zs : List Int} (h : SrtI ks ys) (h' : SrtI ks zs) : ys = zs := sortI_unique ys zs (h.1.trans h'.1.symm) h.2 h'.2
def sp_State_all_held (T : Env K mg) : Sp := fun vs H Q E => ∃ (a c h o : Addr) (fl : Int) (M : HM), vs = [.ref a] ∧ ObAt T H a c h o fl ∧ HeldAt H h M ∧ M.length ≤ 60 ∧ ∀ p ys H', Same H H' → H p = none → SrtI (gkeys M) ys → Li H' p ys → Q (.ref p) H'
theorem ok_State_all_held (T : Env K mg) : FnOk P w K mg base (L2.CX P w) 1 T.a_State_all_held T.d_State_all_held ["self"] (sp_State_all_held T) := by
  refine T.F_State_all_held.okX sc_State_all_held (fun vs H Q E h => by obtain ⟨_, _, _, _, _, _, rfl, _⟩ := h; rfl) (fun cdv A outer s H vs Q E hr h => ?_)
  obtain ⟨a, c, h, o, fl, M, rfl, ⟨dx, ha⟩, hM, hl, h1⟩ := h
  refine ⟨_, (pss_one (ps_ret (pe_callB (call_sortedDI rfl) (by rfl) T.z_sorted (by decide +kernel) (pa_cons (pe_fld (pv 0) rfl) pa_nil)))), ?_⟩
  exact ⟨_, rfl, a, _, _, _, _, rfl, ha, T.k_State.cl, T.n_State__held, stf_held _ _ _ _, h, _, gkeys M, rfl, .inl hM.at_, keysI M, (by unfold gkeys; rw [List.length_map]; omega), fun ys p hp hs np => h1 p ys _ (same_new np) np ⟨hp, hs⟩ upd_same⟩
def sp_State_held (T : Env K mg) : Sp := fun vs H Q E => ∃ (a c h o : Addr) (fl : Int) (M : HM) (k : Int), vs = [.ref a, .int k] ∧ ObAt T H a c h o fl ∧ HeldAt H h M ∧ Q (((gget M k).map hg).getD .non) H
theorem ok_State_held (T : Env K mg) : FnOk P w K mg base (L2.CX P w) 1 T.a_State_held T.d_State_held ["self", "txn"] (sp_State_held T) := by
  refine T.F_State_held.okX sc_State_held (fun vs H Q E h => by obtain ⟨_, _, _, _, _, _, _, rfl, _⟩ := h; rfl) (fun cdv A outer s H vs Q E hr h => ?_)
  obtain ⟨a, c, h, o, fl, M, k, rfl, ⟨dx, ha⟩, hM, h1⟩ := h
  refine ⟨_, (pss_one (ps_ret (pe_dget1 (hu_of hr) (pe_fld (pv 0) rfl) (pv 1) ⟨rfl, rfl, rfl, rfl⟩))), ?_⟩
  exact ⟨_, rfl, a, _, _, _, _, rfl, ha, T.k_State.cl, T.n_State__held, stf_held _ _ _ _, h, rfl, .inl ⟨_, .inl hM.at_⟩, _, rfl, _, dgetI hM.at_ k, h1⟩

--PART /work/steering/wip/parts/states2.lean
/-- the held transactions that reads and writes meet, by the sorted keys -/
def clash (M : HM) (rs : List Str) (ws : Mp) (ys : List Int) : List Int := ys.filter fun k => match gget M k with
  | some e => meets rs ws e.2
  | none => false
/-- [key for key, _ in writes] -/
theorem keys_take {ws : Mp} {i : Nat} {e : Str × Option Int} (h : ws[i]? = some e) : wk (ws.take (i + 1)) = wk (ws.take i) ++ [e.1] := by
  unfold wk
  rw [take_succ h, List.map_append]
  rfl
def sp_State_conflicts (T : Env K mg) : Sp := fun vs H Q E => ∃ (a c h o : Addr) (fl : Int) (M : HM) (r wA : Addr) (as : List Addr) (rs : List Str) (ws : Mp), vs = [.ref a, .ref r, .ref wA] ∧ ObAt T H a c h o fl ∧ HeldAt H h M ∧ M.length ≤ 60 ∧ H r = some (.tup (rs.map V.str)) ∧ WrAt H wA as ws ∧ rs.length ≤ 30 ∧ ws.length ≤ 30 ∧ (∀ e ∈ M, e.2.2.rs.length ≤ 30 ∧ e.2.2.ws.length ≤ 30) ∧
  ∀ p ys H', Same H H' → H p = none → SrtI (gkeys M) ys → Li H' p (clash M rs ws ys) → Q (.ref p) H'
theorem ok_State_conflicts (T : Env K mg) : FnOk P w K mg base (L2.CX P w) 2 T.a_State_conflicts T.d_State_conflicts ["self", "reads", "writes"] (sp_State_conflicts T) := by
  refine T.F_State_conflicts.okX sc_State_conflicts (fun vs H Q E h => by obtain ⟨_, _, _, _, _, _, _, _, _, _, _, rfl, _⟩ := h; rfl) (fun cdv A outer s H vs Q E hr h => ?_)
  obtain ⟨a, c, h, o, fl, M, r, wA, as, rs, ws, rfl, hO, hM, hMl, hR, hW, hrl, hwl, hbd, h1⟩ := h
  have hu64 := hu64_of hr
  have G_State_all_held := ok_State_all_held (P := P) (w := w) (base := base) T
  have G__have_common := ok__have_common (P := P) (w := w) (base := base) T
  refine ⟨_, (pss_cons (ps_setLc (i := 3) (own := [("key", 11), ("_", 7)]) (by rfl) sc_State_conflicts.nd rfl rfl (sw_true rfl rfl rfl (by decide +kernel)) (pi_tup (pv 2)) (blkOk_by (own := [("key", 11), ("_", 7)]) (N := ["self", "reads", "writes", "written", "touched", "found", "txn", "_", "held_reads", "held_writes", "held_written", "key"]) (sc := defScope s_State_conflicts) (by decide +kernel)) (fun _ _ _ _ _ => (show PG _ _ (gTup K 2 (gCons (gName 11) (gCons (gName 7) gNil))) from (pg_tup rfl (pgs_cons (pg_name (i := 11) sc_State_conflicts.nd rfl (Or.inl rfl)) (pgs_cons (pg_name (i := 7) sc_State_conflicts.nd rfl (Or.inl rfl)) pgs_nil))))) (fun _ _ _ _ _ => pts_nil) (fun _ _ _ _ _ => (pv 11)))
      (pss_cons (ps_set (i := 4) sc_State_conflicts.nd rfl (Or.inl rfl) (pe_op op_cat (pe_callTy call_list_of (by rfl) T.z_list (by decide +kernel) (pa_cons (pv 1) pa_nil)) (pv 3)))
      (pss_cons (ps_set (i := 5) sc_State_conflicts.nd rfl (Or.inl rfl) (pe_lst pa_nil))
      (pss_cons (ps_for (passes_of rfl) rfl (pi_list (pe_meth0 (pv 0) T.k_State.cl T.m_State_all_held G_State_all_held (hr.mono (by decide)) T.b_State_all_held .nil passL)) (pg_name (i := 6) sc_State_conflicts.nd rfl (Or.inl rfl)) (pss_cons (ps_asg (pe_dget (hu_of hr) (pe_fld (pv 0) rfl) (pv 6) (fun _ _ => rfl)) (pg_tup rfl (pgs_cons (pg_name (i := 7) sc_State_conflicts.nd rfl (Or.inl rfl)) (pgs_cons (pg_name (i := 7) sc_State_conflicts.nd rfl (Or.inl rfl)) (pgs_cons (pg_name (i := 8) sc_State_conflicts.nd rfl (Or.inl rfl)) (pgs_cons (pg_name (i := 9) sc_State_conflicts.nd rfl (Or.inl rfl)) pgs_nil))))))
      (pss_cons (ps_setLc (i := 10) (own := [("key", 11), ("_", 7)]) (by rfl) sc_State_conflicts.nd rfl rfl (sw_true rfl rfl rfl (by decide +kernel)) (pi_tup (pv 9)) (blkOk_by (own := [("key", 11), ("_", 7)]) (N := ["self", "reads", "writes", "written", "touched", "found", "txn", "_", "held_reads", "held_writes", "held_written", "key"]) (sc := defScope s_State_conflicts) (by decide +kernel)) (fun _ _ _ _ _ => (show PG _ _ (gTup K 2 (gCons (gName 11) (gCons (gName 7) gNil))) from (pg_tup rfl (pgs_cons (pg_name (i := 11) sc_State_conflicts.nd rfl (Or.inl rfl)) (pgs_cons (pg_name (i := 7) sc_State_conflicts.nd rfl (Or.inl rfl)) pgs_nil))))) (fun _ _ _ _ _ => pts_nil) (fun _ _ _ _ _ => (pv 11)))
      (pss_one (ps_if (PW.pt (pw_or (pt_val (pe_call G__have_common (hr.mono (by decide)) rfl T.g__have_common T.F__have_common.kp T.b__have_common .nil passL (pa_cons (pv 10) (pa_cons (pv 4) pa_nil)))) (pw_or1 (pt_val (pe_call G__have_common (hr.mono (by decide)) rfl T.g__have_common T.F__have_common.kp T.b__have_common .nil passL (pa_cons (pv 8) (pa_cons (pv 3) pa_nil))))))) (pss_one (ps_expr (pe_bm PySem.F.plainAttrs_list PySem.F.slot_list_append PySem.F.type_list_append mt_append (pv 5) (pa_cons (pv 6) pa_nil)))) pss_nil)))))
      (pss_one (ps_ret (pv 5))))))), ?_⟩
  obtain ⟨dx, ha⟩ := id hO
  -- written
  refine ⟨_, rfl, wA, rfl, ⟨_, SqT.of hW.at_⟩, fun D hD => ?_⟩
  refine lc_tup (K := K) (a := wA) (xs := as.map V.ref) (fun i H' => Same H H' ∧ H' D = some (.lst ((wk (ws.take i)).map V.str))) ⟨same_new hD, upd_same⟩ (fun i H' _ h => SqT.of (h.1 _ _ hW.at_)) ?_ ?_
  · rintro i x H' hx ⟨sA, hp⟩
    obtain ⟨b, hb, rfl⟩ := mem_rf hx
    obtain ⟨e, he, hE⟩ := hW.each i b hb
    have hi : i < ws.length := (List.getElem?_eq_some_iff.mp he).1
    refine ⟨b, _, rfl, SqT.of (sA _ _ hE), rfl, _, _, rfl, _, _, rfl, rfl, rfl, yes_if ⟨_, rfl, _, hp, szl (by unfold wk; rw [List.length_map, List.length_map, List.length_take]; omega), same_mut sA hD, ?_⟩⟩
    rw [keys_take he, upd_same, List.map_append]
    rfl
  rintro H1 ⟨s1, hD1⟩
  rw [List.length_map, hW.len, List.take_length] at hD1
  have hkl : (wk ws).length ≤ 30 := by unfold wk; rw [List.length_map]; omega
  -- touched
  refine ⟨_, rfl, r, _, rfl, .inr (SqT.of (s1 _ _ hR)), fun q nq => ?_⟩
  have s2 := s1.trans (same_new (o := .lst (rs.map V.str)) nq)
  refine ⟨_, rfl, q, D, rs.map V.str, (wk ws).map V.str, rfl, rfl, upd_same, same_new nq _ _ hD1, (by rw [List.length_map, List.length_map]; exact szle (by omega)), fun t nt => ?_⟩
  rw [← List.map_append]
  have s3 := s2.trans (same_new (o := .lst ((rs ++ wk ws).map V.str)) nt)
  have hT3 : upd (upd H1 q (.lst (rs.map V.str))) t (.lst ((rs ++ wk ws).map V.str)) t = some (.lst ((rs ++ wk ws).map V.str)) := upd_same
  have hD3 := same_new (o := .lst ((rs ++ wk ws).map V.str)) nt _ _ (same_new (o := .lst (rs.map V.str)) nq _ _ hD1)
  show tSeq _ _ _ _ (upd (upd H1 q (.lst (rs.map V.str))) t (.lst ((rs ++ wk ws).map V.str)))
  generalize upd (upd H1 q (.lst (rs.map V.str))) t (.lst ((rs ++ wk ws).map V.str)) = H3 at s3 hT3 hD3
  refine ⟨Nat.zero_le _, fun f nf => ?_⟩
  have nf0 : H f = none := s3.free nf
  have tf : t ≠ f := ne_of_none hT3 nf
  have Df : D ≠ f := ne_of_none hD3 nf
  have s4 := s3.trans (same_new (o := .lst []) nf)
  have hf4 : upd H3 f (.lst []) f = some (.lst (([] : List Int).map V.int)) := upd_same
  have hT4 := same_new (o := .lst []) nf _ _ hT3
  have hD4 := same_new (o := .lst []) nf _ _ hD3
  show tSeq _ _ _ _ (upd H3 f (.lst []))
  generalize upd H3 f (.lst []) = H4 at s4 hf4 hT4 hD4
  refine ⟨_, rfl, a, _, _, rfl, s4 _ _ ha, stf_no _ _ _ _ (by decide +kernel) (by decide +kernel) (by decide +kernel) (by decide +kernel), a, c, h, o, fl, M, rfl, hO.same s4, hM.same s4, hMl, fun k ys H5 s5 nk hsrt hk => ⟨k, rfl, ⟨_, SqL.of hk⟩, ?_⟩⟩
  have kf : k ≠ f := (ne_of_none hf4 nk).symm
  have s45 := s4.trans s5
  have hf5 := s5 _ _ hf4
  have hT5 := s5 _ _ hT4
  have hD5 := s5 _ _ hD4
  have ha5 := s45 _ _ ha
  have hM5 := hM.same s45
  refine for_list (K := K) (a := k) (xs := ys.map V.int) (fun i σ H' => ∃ v6 v7 v8 v9 v10, σ = [some (.ref a), some (.ref r), some (.ref wA), some (.ref D), some (.ref t), some (.ref f), v6, v7, v8, v9, v10, none] ∧ Same H H' ∧ Li H' k ys ∧ H' t = some (.lst ((rs ++ wk ws).map V.str)) ∧ H' D = some (.lst ((wk ws).map V.str)) ∧ HeldAt H' h M ∧ (∃ dx, H' a = some (.ins T.a_State dx (stf c h o fl))) ∧ Li H' f (clash M rs ws (ys.take i))) ⟨none, none, none, none, none, rfl, s45, hk, hT5, hD5, hM5, ⟨_, ha5⟩, by show Li H5 f []; exact hf5⟩ (fun i σ H' _ ⟨_, _, _, _, _, _, _, h, _⟩ => SqL.of h) ?_ ?_
  · rintro i x σ H' hx ⟨v6, v7, v8, v9, v10, rfl, sA, hk', hT', hD', hM', ⟨dx', ha'⟩, hf'⟩
    obtain ⟨tx, hti, rfl⟩ := mem_int hx
    have hi : i < ys.length := (List.getElem?_eq_some_iff.mp hti).1
    have hyl : ys.length ≤ 60 := by
      rw [hsrt.1.length_eq]
      unfold gkeys
      rw [List.length_map]
      exact hMl
    have htm : tx ∈ gkeys M := hsrt.1.mem_iff.mp (List.mem_of_getElem? hti)
    obtain ⟨e, he⟩ : ∃ e, gget M tx = some e := by
      cases q : gget M tx with
      | none => exact absurd htm (gget_none.mp q)
      | some e => exact ⟨e, rfl⟩
    have hem := gget_some he
    obtain ⟨r2, w2, as2, hA2, hR2, hW2⟩ := (hM'.each _ hem).ex
    obtain ⟨b1, b2⟩ := hbd _ hem
    have b1 : e.2.rs.length ≤ 30 := b1
    have b2 : e.2.ws.length ≤ 30 := b2
    refine ⟨_, rfl, a, _, _, _, _, rfl, ha', T.k_State.cl, T.n_State__held, stf_held _ _ _ _, _, rfl, h, hg e, rfl, (by have := dgetI hM'.at_ tx; rw [he] at this; exact this), ?_⟩
    refine ⟨e.1, _, rfl, SqT.of hA2, rfl, _, _, rfl, _, _, rfl, _, _, rfl, _, _, rfl, rfl, ?_⟩
    -- held_written
    refine ⟨_, rfl, w2, rfl, ⟨_, SqT.of hW2.at_⟩, fun D2 hD2 => ?_⟩
    refine lc_tup (K := K) (a := w2) (xs := as2.map V.ref) (fun i HX => Same H' HX ∧ HX D2 = some (.lst ((wk (e.2.ws.take i)).map V.str))) ⟨same_new hD2, upd_same⟩ (fun i HX _ h => SqT.of (h.1 _ _ hW2.at_)) ?_ ?_
    · rintro j x HX hx ⟨sB, hp⟩
      obtain ⟨b, hb, rfl⟩ := mem_rf hx
      obtain ⟨e', he', hE'⟩ := hW2.each j b hb
      have hj : j < e.2.ws.length := (List.getElem?_eq_some_iff.mp he').1
      refine ⟨b, _, rfl, SqT.of (sB _ _ hE'), rfl, _, _, rfl, _, _, rfl, rfl, rfl, yes_if ⟨_, rfl, _, hp, szl (by unfold wk; rw [List.length_map, List.length_map, List.length_take]; omega), same_mut sB hD2, ?_⟩⟩
      rw [keys_take he', upd_same, List.map_append]
      rfl
    rintro H6 ⟨s6, hD6⟩
    rw [List.length_map, hW2.len, List.take_length] at hD6
    have hwk2 : (wk e.2.ws).length ≤ 30 := by unfold wk; rw [List.length_map]; exact b2
    have step : clash M rs ws (ys.take (i + 1)) = clash M rs ws (ys.take i) ++ (if meets rs ws e.2 = true then [tx] else []) := by
      unfold clash
      rw [take_succ hti, List.filter_append]
      congr 1
      rw [List.filter_cons, he]
      rfl
    have hcl : (clash M rs ws (ys.take i)).length ≤ 60 := by
      have := List.length_filter_le (fun k => match gget M k with | some e => meets rs ws e.2 | none => false) (ys.take i)
      rw [List.length_take] at this
      unfold clash
      omega
    have hm : meets rs ws e.2 = (common (wk e.2.ws) (rs ++ wk ws) || common e.2.rs (wk ws)) := rfl
    refine ⟨_, rfl, _, rfl, D2, t, wk e.2.ws, rs ++ wk ws, rfl, .inl (SqL.of hD6), SqL.of (s6 _ _ hT'), by omega, fun H7 s7 => ⟨_, rfl, ?_⟩⟩
    have s67 := s6.trans s7
    -- how the turn ends
    have neq : ∀ {x : Addr} {u : HO}, H' x = some u → (∀ xs, u ≠ .lst xs) → x ≠ f := fun hx hn q => by
      rw [q, hf'] at hx
      exact hn _ (Option.some.inj hx).symm
    have skip : meets rs ws e.2 = false → clash M rs ws (ys.take (i + 1)) = clash M rs ws (ys.take i) := fun q => by rw [step, q]; exact List.append_nil _
    have push : meets rs ws e.2 = true → clash M rs ws (ys.take (i + 1)) = clash M rs ws (ys.take i) ++ [tx] := fun q => by rw [step, q]; rfl
    have fin : ∀ HX, Same H' HX → meets rs ws e.2 = true → ∀ U, U = upd HX f (.lst ((clash M rs ws (ys.take i)).map V.int ++ [V.int tx])) → Same H U ∧ Li U k ys ∧ U t = some (.lst ((rs ++ wk ws).map V.str)) ∧ U D = some (.lst ((wk ws).map V.str)) ∧ HeldAt U h M ∧ (∃ dx, U a = some (.ins T.a_State dx (stf c h o fl))) ∧ Li U f (clash M rs ws (ys.take (i + 1))) := by
      intro HX sX hmt U hU
      subst hU
      have hfX := sX _ _ hf'
      have hMX := hM'.same sX
      have tp : Tp HX (upd HX f (.lst ((clash M rs ws (ys.take i)).map V.int ++ [V.int tx]))) := fun b xs hb => by
        rw [upd_ne (fun q => by
          rw [q, hfX] at hb
          cases hb)]
        exact hb
      refine ⟨same_mut (sA.trans sX) nf0, ?_, ?_, ?_, ⟨?_, hMX.nd, fun e' he' => (hMX.each e' he').same tp⟩, ⟨dx', ?_⟩, ?_⟩
      · show upd _ _ _ _ = _
        rw [upd_ne kf]
        exact sX _ _ hk'
      · rw [upd_ne tf]
        exact sX _ _ hT'
      · rw [upd_ne Df]
        exact sX _ _ hD'
      · rw [upd_ne (neq hM'.at_ fun xs q => by cases q)]
        exact hMX.at_
      · rw [upd_ne (neq ha' fun xs q => by cases q)]
        exact sX _ _ ha'
      · rw [push hmt]
        exact li_push
    have stay : ∀ HX, Same H' HX → meets rs ws e.2 = false → Same H HX ∧ Li HX k ys ∧ HX t = some (.lst ((rs ++ wk ws).map V.str)) ∧ HX D = some (.lst ((wk ws).map V.str)) ∧ HeldAt HX h M ∧ (∃ dx, HX a = some (.ins T.a_State dx (stf c h o fl))) ∧ Li HX f (clash M rs ws (ys.take (i + 1))) := fun HX sX hmt =>
      ⟨sA.trans sX, sX _ _ hk', sX _ _ hT', sX _ _ hD', hM'.same sX, ⟨dx', sX _ _ ha'⟩, by rw [skip hmt]; exact sX _ _ hf'⟩
    cases hc1 : common (wk e.2.ws) (rs ++ wk ws) with
    | true =>
      refine ifT rfl ⟨_, rfl, .inl ⟨rfl, _, SqL.of (s67 _ _ hf')⟩, _, rfl, _, _, _, rfl, rfl, s67 _ _ hf', szl (by rw [List.length_map]; omega), ?_⟩
      exact ⟨_, _, _, _, _, rfl, fin _ s67 (by rw [hm, hc1]; rfl) _ rfl⟩
    | false =>
      refine ifF rfl ⟨_, rfl, _, rfl, r2, D, e.2.rs, wk ws, rfl, .inr (SqT.of (s67 _ _ hR2)), SqL.of (s67 _ _ hD'), by omega, fun H8 s8 => ⟨_, rfl, ?_⟩⟩
      have s68 := s67.trans s8
      cases hc2 : common e.2.rs (wk ws) with
      | true =>
        refine ifT rfl ⟨_, rfl, .inl ⟨rfl, _, SqL.of (s68 _ _ hf')⟩, _, rfl, _, _, _, rfl, rfl, s68 _ _ hf', szl (by rw [List.length_map]; omega), ?_⟩
        exact ⟨_, _, _, _, _, rfl, fin _ s68 (by rw [hm, hc1, hc2]; rfl) _ rfl⟩
      | false =>
        refine ifF rfl ?_
        exact ⟨_, _, _, _, _, rfl, stay _ s68 (by rw [hm, hc1, hc2]; rfl)⟩
  · rintro σ H' ⟨v6, v7, v8, v9, v10, rfl, sA, hk', hT', hD', hM', _, hf'⟩
    rw [List.length_map, List.take_length] at hf'
    exact ⟨_, rfl, h1 f ys H' sA nf0 hsrt hf'⟩

--PART /work/steering/wip/parts/sv3.lean
def blk2 (M : HM) (k : Str) (t : Int) (ys : List Int) : List Int := (clash M [k] [] ys).filter fun x => match gget M x with
  | some e => decide (e.2.t ≤ t)
  | none => false
theorem clash_mem {M : HM} {rs : List Str} {ws : Mp} {ys : List Int} {x : Int} (h : x ∈ clash M rs ws ys) : ∃ e, gget M x = some e ∧ meets rs ws e.2 = true := by
  have h2 := (List.mem_filter.mp h).2
  cases q : gget M x with
  | none => rw [q] at h2; cases h2
  | some e => rw [q] at h2; exact ⟨e, rfl, h2⟩
theorem clash_len (M : HM) (rs : List Str) (ws : Mp) (ys : List Int) : (clash M rs ws ys).length ≤ ys.length := List.length_filter_le _ _
theorem srt_len {M : HM} {ys : List Int} (h : SrtI (gkeys M) ys) : ys.length = M.length := by
  rw [h.1.length_eq]
  unfold gkeys
  rw [List.length_map]
/-! ### cells -/
theorem vn : (putF "_versions" (V.ref 0) [] : List (Str × V)).lookup ("_versions" : Str) = some (.ref 0) := by rw [lookup_putF, if_pos rfl]
def cef (v : Addr) : List (Str × V) := putF "_versions" (.ref v) []
theorem cef_v (v : Addr) : (cef v).lookup ("_versions" : Str) = some (.ref v) := by
  unfold cef
  rw [lookup_putF, if_pos rfl]
theorem cef_no (v : Addr) {m : Str} (h : ¬ m = "_versions") : (cef v).lookup m = none := by
  unfold cef
  rw [lookup_putF, if_neg h]
  rfl
abbrev Ver := Int × Option Int
abbrev VM := List (Str × (Addr × List Ver))
abbrev vg (e : Addr × List Ver) : V := .ref e.1
def lastV (L : List Ver) : Int := match L.getLast? with
  | some p => p.1
  | none => 0
def lastT (M : VM) (k : Str) : Int := match gget M k with
  | some e => lastV e.2
  | none => 0
/-- versions in a list -/
structure VsAt (H : Hp) (p : Addr) (as : List Addr) (L : List Ver) : Prop where
  at_ : H p = some (.lst (as.map V.ref))
  len : as.length = L.length
  each : ∀ (j : Nat) (a : Addr), as[j]? = some a → ∃ e, L[j]? = some e ∧ H a = some (.tup [.int e.1, oV e.2])
theorem VsAt.frame {H H' : Hp} {p x : Addr} {as : List Addr} {L : List Ver} (h : VsAt H p as L) (f : ∀ b u, H b = some u → b ≠ x → H' b = some u) (n : p ≠ x) (nt : ∀ xs, H x ≠ some (.tup xs)) : VsAt H' p as L := ⟨f _ _ h.at_ n, h.len, fun j a e => by
  obtain ⟨o, h1, h2⟩ := h.each j a e
  exact ⟨o, h1, f _ _ h2 fun w => nt _ (w ▸ h2)⟩⟩
theorem VsAt.same {H H' : Hp} {p : Addr} {as : List Addr} {L : List Ver} (h : VsAt H p as L) (s : Same H H') : VsAt H' p as L := ⟨s _ _ h.at_, h.len, fun j a e => by
  obtain ⟨o, h1, h2⟩ := h.each j a e
  exact ⟨o, h1, s _ _ h2⟩⟩
theorem VsAt.app {H H1 : Hp} {p r q : Addr} {as : List Addr} {L : List Ver} (h : VsAt H p as L) (f : Tp H H1) {t : Int} {v : Option Int} (hq : H1 q = some (.tup [.int t, oV v])) (hr : H1 r = some (.lst (as.map V.ref ++ [.ref q]))) : VsAt H1 r (as ++ [q]) (L ++ [(t, v)]) := by
  refine ⟨by rw [hr, List.map_append]; rfl, by rw [List.length_append, List.length_append, h.len]; rfl, fun j b hj => ?_⟩
  by_cases c : j < as.length
  · rw [List.getElem?_append_left c] at hj
    obtain ⟨e, g2, g3⟩ := h.each j b hj
    exact ⟨e, by rw [List.getElem?_append_left (by rw [← h.len]; exact c)]; exact g2, f _ _ g3⟩
  · have hj2 : j = as.length := by
      have := (List.getElem?_eq_some_iff.mp hj).1
      rw [List.length_append] at this
      have : j < as.length + 1 := this
      omega
    subst hj2
    rw [List.getElem?_append_right (Nat.le_refl _), Nat.sub_self] at hj
    have eb : q = b := Option.some.inj hj
    subst eb
    exact ⟨(t, v), by rw [h.len, List.getElem?_append_right (Nat.le_refl _), Nat.sub_self]; rfl, hq⟩
structure CeAt (T : Env K mg) (H : Hp) (c v : Addr) (M : VM) (n : Nat) : Prop where
  ob : ∃ dx, H c = some (.ins T.a_Cells dx (cef v))
  at_ : H v = some (.dK (toD Sum.inr vg M))
  nd : (gkeys M).Nodup
  ad : (M.map fun e => e.2.1).Nodup
  vs : ∀ e ∈ M, ∃ as, VsAt H e.2.1 as e.2.2 ∧ e.2.2 ≠ [] ∧ e.2.2.length ≤ n
theorem CeAt.same {T : Env K mg} {H H' : Hp} {c v : Addr} {M : VM} {n : Nat} (x : CeAt T H c v M n) (s : Same H H') : CeAt T H' c v M n := ⟨x.ob.elim fun dx h => ⟨dx, s _ _ h⟩, s _ _ x.at_, x.nd, x.ad, fun e he => by
  obtain ⟨as, h1, h2, h3⟩ := x.vs e he
  exact ⟨as, h1.same s, h2, h3⟩⟩
theorem CeAt.each {T : Env K mg} {H : Hp} {c v : Addr} {M : VM} {n : Nat} (x : CeAt T H c v M n) : ∀ e ∈ M, ∃ (xs : List V) (z : Addr) (y : V), xs.length ≤ n ∧ H e.2.1 = some (.lst (xs ++ [.ref z])) ∧ H z = some (.tup [.int (lastV e.2.2), y]) := fun e he => by
  obtain ⟨as, h1, h2, h3⟩ := x.vs e he
  have hpos : 0 < e.2.2.length := List.length_pos_iff.mpr h2
  have ha : as ≠ [] := fun q => by
    have := h1.len
    rw [q] at this
    have : 0 = e.2.2.length := this
    omega
  obtain ⟨z, hz⟩ : ∃ z, as.getLast? = some z := ⟨_, List.getLast?_eq_some_getLast ha⟩
  have hz2 : as[as.length - 1]? = some z := by rw [← List.getLast?_eq_getElem?]; exact hz
  obtain ⟨p, g1, g2⟩ := h1.each _ z hz2
  have el : lastV e.2.2 = p.1 := by
    unfold lastV
    rw [List.getLast?_eq_getElem?, ← h1.len, g1]
  refine ⟨as.dropLast.map V.ref, z, oV p.2, ?_, ?_, by rw [el]; exact g2⟩
  · rw [List.length_map, List.length_dropLast, h1.len]
    omega
  · have hzl : as.getLast ha = z := by
      have := List.getLast?_eq_some_getLast ha
      rw [hz] at this
      exact (Option.some.inj this).symm
    have e2 : as.dropLast ++ [z] = as := by
      rw [← hzl]
      exact List.dropLast_concat_getLast ha
    rw [h1.at_, show as.dropLast.map V.ref ++ [V.ref z] = (as.dropLast ++ [z]).map V.ref by rw [List.map_append]; rfl, e2]
def sp_Cells_last_time (T : Env K mg) : Sp := fun vs H Q E => ∃ (c v : Addr) (M : VM) (n : Nat) (k : Str), vs = [.ref c, .str k] ∧ CeAt T H c v M n ∧ Q (.int (lastT M k)) H
theorem ok_Cells_last_time (T : Env K mg) : FnOk P w K mg base (L2.CX P w) 1 T.a_Cells_last_time T.d_Cells_last_time ["self", "key"] (sp_Cells_last_time T) := by
  refine T.F_Cells_last_time.okX sc_Cells_last_time (fun vs H Q E h => by obtain ⟨_, _, _, _, _, rfl, _⟩ := h; rfl) (fun cdv A outer s H vs Q E hr h => ?_)
  obtain ⟨c, v, M, n, k, rfl, hC, h1⟩ := h
  refine ⟨_, (pss_cons (ps_if (pt_cmp (pc_dnotin (hu_of hr) (pv 1) (pe_fld (pv 0) rfl)) rfl) (pss_one (ps_ret pe_int)) pss_nil)
      (pss_one (ps_ret (pe_ix ix_tup (pe_ix ix_list (pe_dget (hu_of hr) (pe_fld (pv 0) rfl) (pv 1) (fun _ _ => rfl)) (pe_un un_neg pe_int) (fun _ _ => rfl)) pe_int (fun _ _ => rfl))))), ?_⟩
  obtain ⟨dx, hc⟩ := hC.ob
  refine ⟨_, rfl, _, rfl, c, _, _, _, _, rfl, hc, T.k_Cells.cl, T.n_Cells__versions, cef_v _, v, _, rfl, dgetS hC.at_ k, _, rfl, ?_⟩
  cases q : gget M k with
  | none =>
    refine ifT rfl ?_
    unfold lastT at h1
    rw [q] at h1
    exact h1
  | some e =>
    unfold lastT at h1
    rw [q] at h1
    obtain ⟨xs, z, y, hn, hl, hz⟩ := hC.each _ (gget_some q)
    refine ifF rfl ⟨_, rfl, c, _, _, _, _, rfl, hc, T.k_Cells.cl, T.n_Cells__versions, cef_v _, _, rfl, v, vg e, rfl, (by have := dgetS hC.at_ k; rw [q] at this; exact this), _, rfl, e.1, _, _, .ref z, rfl, rfl, SqL.of hl, ?_, z, _, _, .int (lastV e.2), rfl, rfl, SqT.of hz, atI_nat (j := 0) rfl, h1⟩
    unfold atI ixN
    rw [if_neg (by decide), if_pos (by rw [List.length_append]; show -(((xs.length + 1 : Nat)) : Int) ≤ -1; omega)]
    show (xs ++ [V.ref z])[((-1 : Int) + ((xs ++ [V.ref z]).length : Nat)).toNat]? = _
    rw [List.length_append, show ((-1 : Int) + ((xs.length + [V.ref z].length : Nat) : Int)).toNat = xs.length by show ((-1 : Int) + ((xs.length + 1 : Nat) : Int)).toNat = _; omega, List.getElem?_append_right (Nat.le_refl _), Nat.sub_self]
    rfl

--PART /work/steering/wip/parts/sv4.lean
theorem toD_again {M : VM} {k : Str} {e : Addr × List Ver} (hn : (gkeys M).Nodup) (he : gget M k = some e) (t : List Ver) : toD Sum.inr vg (gput M k (e.1, t)) = toD Sum.inr vg M := by
  unfold gput
  rw [if_pos ((gmem M k).mpr (by
    by_cases c : k ∈ gkeys M
    · exact c
    · rw [gget_none.mpr c] at he
      cases he))]
  unfold toD
  rw [List.map_map]
  refine List.map_congr_left fun a ha => ?_
  show (fun kv : Str × (Addr × List Ver) => ((Sum.inr kv.1 : Key), vg kv.2)) (if a.1 = k then (a.1, (e.1, t)) else a) = _
  by_cases c : a.1 = k
  · rw [if_pos c]
    have : gget M k = some a.2 := gget_mem hn (by rw [← c]; exact ha)
    rw [he] at this
    have : e = a.2 := Option.some.inj this
    show ((Sum.inr a.1 : Key), V.ref e.1) = (Sum.inr a.1, V.ref a.2.1)
    rw [this]
  · rw [if_neg c]
theorem ad_again {M : VM} {k : Str} {e : Addr × List Ver} (hn : (gkeys M).Nodup) (he : gget M k = some e) (t : List Ver) : (gput M k (e.1, t)).map (fun e => e.2.1) = M.map fun e => e.2.1 := by
  unfold gput
  rw [if_pos ((gmem M k).mpr (by
    by_cases c : k ∈ gkeys M
    · exact c
    · rw [gget_none.mpr c] at he
      cases he)), List.map_map]
  refine List.map_congr_left fun a ha => ?_
  show (if a.1 = k then (a.1, (e.1, t)) else a).2.1 = _
  by_cases c : a.1 = k
  · rw [if_pos c]
    have : gget M k = some a.2 := gget_mem hn (by rw [← c]; exact ha)
    rw [he] at this
    rw [Option.some.inj this]
  · rw [if_neg c]
theorem gget_gput {κ β : Type} [DecidableEq κ] (M : List (κ × β)) (k : κ) (v : β) (j : κ) : gget (gput M k v) j = if j = k then some v else gget M j := by
  have gen : ∀ M : List (κ × β), (M.map fun kv => if kv.1 = k then (kv.1, v) else kv).find? (fun kv => decide (kv.1 = j)) = (M.find? fun kv => decide (kv.1 = j)).map fun kv => if kv.1 = k then (kv.1, v) else kv := by
    intro M
    induction M with
    | nil => rfl
    | cons a r ih =>
      rw [List.map_cons, List.find?_cons, List.find?_cons]
      have e : (if a.1 = k then (a.1, v) else a).1 = a.1 := by split <;> rfl
      rw [e]
      by_cases h : a.1 = j
      · rw [decide_eq_true h]
        rfl
      · rw [decide_eq_false h]
        exact ih
  unfold gput gget
  by_cases h : (M.any fun kv => decide (kv.1 = k)) = true
  · rw [if_pos h, gen]
    by_cases c : j = k
    · rw [if_pos c]
      subst c
      obtain ⟨x, hx, hxk⟩ := List.any_eq_true.mp h
      cases q : M.find? fun kv => decide (kv.1 = j) with
      | none => exact absurd hxk (by simpa using List.find?_eq_none.mp q x hx)
      | some y =>
        have := List.find?_some q
        have e : y.1 = j := by simpa using this
        show some (if y.1 = j then (y.1, v) else y).2 = _
        rw [if_pos e]
    · rw [if_neg c]
      cases q : M.find? fun kv => decide (kv.1 = j) with
      | none => rfl
      | some y =>
        have := List.find?_some q
        have e : y.1 = j := by simpa using this
        show some (if y.1 = k then (y.1, v) else y).2 = some y.2
        rw [if_neg (fun z => c (e.symm.trans z))]
  · rw [if_neg h, List.find?_append]
    have hn : M.find? (fun kv => decide (kv.1 = k)) = none := by
      rw [List.find?_eq_none]
      intro x hx q
      exact h (List.any_eq_true.mpr ⟨x, hx, q⟩)
    by_cases c : j = k
    · rw [if_pos c]
      subst c
      rw [hn]
      simp
    · rw [if_neg c]
      have : [(k, v)].find? (fun kv : κ × β => decide (kv.1 = j)) = none := by simp [Ne.symm c]
      rw [this]
      cases M.find? fun kv => decide (kv.1 = j) <;> rfl
theorem lastV_app (L : List Ver) (p : Ver) : lastV (L ++ [p]) = p.1 := by
  unfold lastV
  rw [List.getLast?_append]
  rfl
theorem lastT_put (M : VM) (k : Str) (l : Addr) (L : List Ver) (j : Str) : lastT (gput M k (l, L)) j = if j = k then lastV L else lastT M j := by
  unfold lastT
  rw [gget_gput]
  by_cases c : j = k
  · rw [if_pos c, if_pos c]
  · rw [if_neg c, if_neg c]
/-- versions, pure -/
abbrev Vers := List (Str × List Ver)
def pvt (M : VM) : Vers := M.map fun e => (e.1, e.2.2)
def pput (R : Vers) (t : Int) (w : Str × Option Int) : Vers := gput R w.1 ((gget R w.1).getD [] ++ [(t, w.2)])
def pstore (R : Vers) (t : Int) (ws : Mp) : Vers := ws.foldl (fun R w => pput R t w) R
theorem pstore_take {R : Vers} {t : Int} {ws : Mp} {i : Nat} {e : Str × Option Int} (h : ws[i]? = some e) : pstore R t (ws.take (i + 1)) = pput (pstore R t (ws.take i)) t e := by
  unfold pstore
  rw [take_succ h, List.foldl_append]
  rfl
theorem pvt_get (M : VM) (k : Str) : gget (pvt M) k = (gget M k).map (·.2) := by
  unfold gget pvt
  induction M with
  | nil => rfl
  | cons a r ih =>
    rw [List.map_cons, List.find?_cons, List.find?_cons]
    show (match decide (a.1 = k) with | true => some (a.1, a.2.2) | false => List.find? _ _).map (fun e : Str × List Ver => e.2) = _
    cases decide (a.1 = k) with
    | true => rfl
    | false => exact ih
theorem pvt_put (M : VM) (k : Str) (l : Addr) (L : List Ver) : pvt (gput M k (l, L)) = gput (pvt M) k L := by
  have e : ((pvt M).any fun kv => decide (kv.1 = k)) = M.any fun kv => decide (kv.1 = k) := by
    unfold pvt
    rw [List.any_map]
    rfl
  unfold gput
  rw [e]
  by_cases h : (M.any fun kv => decide (kv.1 = k)) = true
  · rw [if_pos h, if_pos h]
    unfold pvt
    rw [List.map_map, List.map_map]
    refine List.map_congr_left fun a _ => ?_
    show (fun e : Str × (Addr × List Ver) => (e.1, e.2.2)) (if a.1 = k then (a.1, (l, L)) else a) = if a.1 = k then (a.1, L) else (a.1, a.2.2)
    by_cases c : a.1 = k
    · rw [if_pos c, if_pos c]
    · rw [if_neg c, if_neg c]
  · rw [if_neg h, if_neg h]
    unfold pvt
    rw [List.map_append]
    rfl
theorem mem_gput {κ β : Type} [DecidableEq κ] {M : List (κ × β)} {k : κ} {v : β} {e : κ × β} (h : e ∈ gput M k v) : e = (k, v) ∨ (e ∈ M ∧ e.1 ≠ k) := by
  unfold gput at h
  split at h
  · obtain ⟨a, ha, q⟩ := List.mem_map.mp h
    by_cases c : a.1 = k
    · rw [if_pos c] at q
      exact .inl (by rw [← q, c])
    · rw [if_neg c] at q
      exact .inr (q ▸ ⟨ha, c⟩)
  · rename_i c
    rcases List.mem_append.mp h with q | q
    · exact .inr ⟨q, fun z => c (List.any_eq_true.mpr ⟨e, q, by simpa using z⟩)⟩
    · exact .inl (by simpa using q)
theorem nodup_inj {α β : Type} {f : α → β} : ∀ {l : List α}, (l.map f).Nodup → ∀ {a b : α}, a ∈ l → b ∈ l → f a = f b → a = b
  | [], _, _, _, h, _, _ => by cases h
  | x :: r, hn, a, b, ha, hb, e => by
    have hn2 := List.nodup_cons.mp (show (f x :: r.map f).Nodup from hn)
    rcases List.mem_cons.mp ha with p | p
    · rcases List.mem_cons.mp hb with q | q
      · rw [p, q]
      · exact absurd (List.mem_map.mpr ⟨b, q, by rw [← e, p]⟩) hn2.1
    · rcases List.mem_cons.mp hb with q | q
      · exact absurd (List.mem_map.mpr ⟨a, p, by rw [e, q]⟩) hn2.1
      · exact nodup_inj hn2.2 p q e
/-- all but the cells stays -/
def Kc (H H' : Hp) (v : Addr) (M : VM) : Prop := ∀ b u, H b = some u → b ≠ v → (∀ e ∈ M, b ≠ e.2.1) → H' b = some u
theorem Kc.tp {T : Env K mg} {H H' : Hp} {c v : Addr} {M : VM} {n : Nat} (x : Kc H H' v M) (h : CeAt T H c v M n) : Tp H H' := fun b xs hb => x b _ hb (fun q => by rw [q, h.at_] at hb; cases hb) fun e he q => by
  obtain ⟨ys, z, y, _, h2, _⟩ := h.each e he
  rw [q, h2] at hb
  cases hb
def sp_Cells_put (T : Env K mg) : Sp := fun vs H Q E => ∃ (c v : Addr) (M : VM) (n : Nat) (t : Int) (wA : Addr) (as : List Addr) (ws : Mp), vs = [.ref c, .int t, .ref wA] ∧ CeAt T H c v M n ∧ WrAt H wA as ws ∧ 1 ≤ t ∧ (∀ e ∈ ws, lastT M e.1 < t) ∧ ws.length ≤ 30 ∧ n ≤ 4000 ∧ M.length ≤ 4000 ∧
  ∀ H' M', CeAt T H' c v M' (n + ws.length) → (∀ k, lastT M' k = if k ∈ wk ws then t else lastT M k) → Kc H H' v M → (∀ e ∈ M', (∃ e0 ∈ M, e.2.1 = e0.2.1) ∨ H e.2.1 = none) → M'.length ≤ M.length + ws.length → (∀ e0 ∈ M, ∃ e ∈ M', e.2.1 = e0.2.1) → pvt M' = pstore (pvt M) t ws → Q .non H'
theorem ok_Cells_put (T : Env K mg) : FnOk P w K mg base (L2.CX P w) 2 T.a_Cells_put T.d_Cells_put ["self", "time", "writes"] (sp_Cells_put T) := by
  refine T.F_Cells_put.okX sc_Cells_put (fun vs H Q E h => by obtain ⟨_, _, _, _, _, _, _, _, rfl, _⟩ := h; rfl) (fun cdv A outer s H vs Q E hr h => ?_)
  obtain ⟨c, v, M, n, t, wA, as, ws, rfl, hC, hW, ht, hlt, hwl, hn, hMl, h1⟩ := h
  have hu64 := hu64_of hr
  have G_Cells_last_time := ok_Cells_last_time (P := P) (w := w) (base := base) T
  refine ⟨_, (pss_cons (ps_if (pt_cmpR op_lt (pv 1) pe_int (nomark _)) (pss_one (ps_raise rfl (takes_of rfl rfl rfl rfl) (pmk_own PySem.F.excBase_ValueError T.e_BadArgument.xP T.e_BadArgument.gC T.e_BadArgument.kC (raises_own T.e_BadArgument.bP T.e_BadArgument.tP) (by exact rfl)))) pss_nil)
      (pss_cons (ps_for (passes_of rfl) rfl (pi_tup (pv 2)) (pg_tup rfl (pgs_cons (pg_name (i := 3) sc_Cells_put.nd rfl (Or.inl rfl)) (pgs_cons (pg_name (i := 4) sc_Cells_put.nd rfl (Or.inl rfl)) pgs_nil))) (pss_one (ps_if (pt_cmpR op_le (pv 1) (pe_meth (pv 0) T.k_Cells.cl T.m_Cells_last_time G_Cells_last_time (hr.mono (by decide)) T.b_Cells_last_time .nil (passes_call (takes_of rfl rfl rfl rfl) (fun _ _ _ _ x => x)) (pa_cons (pv 3) pa_nil)) (nomark _)) (pss_one (ps_raise rfl (takes_of rfl rfl rfl rfl) (pmk_own PySem.F.excBase_ValueError T.e_Refused.xP T.e_Refused.gC T.e_Refused.kC (raises_own T.e_Refused.bP T.e_Refused.tP) (by exact rfl)))) pss_nil)))
      (pss_one (ps_for (passes_of rfl) rfl (pi_tup (pv 2)) (pg_tup rfl (pgs_cons (pg_name (i := 3) sc_Cells_put.nd rfl (Or.inl rfl)) (pgs_cons (pg_name (i := 5) sc_Cells_put.nd rfl (Or.inl rfl)) pgs_nil))) (pss_one (ps_expr (pe_bm PySem.F.plainAttrs_list PySem.F.slot_list_append PySem.F.type_list_append mt_append (pe_dsetd (pe_fld (pv 0) rfl) (pv 3) (pe_lst pa_nil) ⟨rfl, rfl, rfl, rfl⟩) (pa_cons (pe_tup (pa_cons (pv 1) (pa_cons (pv 5) pa_nil))) pa_nil)))))))), ?_⟩
  obtain ⟨dx, hc⟩ := hC.ob
  refine ⟨_, rfl, _, _, rfl, rfl, _, rfl, ifF (decide_eq_false (by omega)) ?_⟩
  refine ⟨_, rfl, wA, rfl, ⟨_, SqT.of hW.at_⟩, ?_⟩
  refine for_tup (K := K) (a := wA) (xs := as.map V.ref) (fun i σ H' => ∃ v3 v4, σ = [some (.ref c), some (.int t), some (.ref wA), v3, v4, none] ∧ H' = H) ⟨none, none, rfl, rfl⟩ (fun i σ H' _ ⟨_, _, _, h⟩ => h ▸ SqT.of hW.at_) ?_ ?_
  · rintro i x σ H' hx ⟨v3, v4, rfl, rfl⟩
    obtain ⟨b, hb, rfl⟩ := mem_rf hx
    obtain ⟨e, he, hE⟩ := hW.each i b hb
    refine ⟨b, _, rfl, SqT.of hE, rfl, _, _, rfl, _, _, rfl, rfl, ?_⟩
    refine ⟨_, rfl, _, rfl, c, _, _, rfl, hc, cef_no _ (by decide +kernel), _, rfl, c, v, M, n, e.1, rfl, hC, _, _, rfl, rfl, _, rfl, ifF (decide_eq_false (by have := hlt e (List.mem_of_getElem? he); omega)) ?_⟩
    exact ⟨_, _, rfl, rfl⟩
  rintro σ H0 ⟨v3, v4, rfl, eH⟩
  rw [eH]
  clear eH
  refine ⟨_, rfl, wA, rfl, ⟨_, SqT.of hW.at_⟩, ?_⟩
  refine for_tup (K := K) (a := wA) (xs := as.map V.ref) (fun i σ H' => ∃ v3 v5, ∃ Mi : VM, σ = [some (.ref c), some (.int t), some (.ref wA), v3, v4, v5] ∧ CeAt T H' c v Mi (n + i) ∧ (∀ k, lastT Mi k = if k ∈ wk (ws.take i) then t else lastT M k) ∧ Kc H H' v M ∧ (∀ e ∈ Mi, (∃ e0 ∈ M, e.2.1 = e0.2.1) ∨ H e.2.1 = none) ∧ Mi.length ≤ M.length + i ∧ (∀ e0 ∈ M, ∃ e ∈ Mi, e.2.1 = e0.2.1) ∧ pvt Mi = pstore (pvt M) t (ws.take i)) ⟨v3, none, M, rfl, hC, fun k => by simp [wk], fun b u h _ _ => h, fun e he => .inl ⟨e, he, rfl⟩, Nat.le_refl _, fun e he => ⟨e, he, rfl⟩, rfl⟩ (fun i σ H' _ ⟨_, _, _, _, _, _, h, _⟩ => SqT.of (h.tp hC _ _ hW.at_)) ?_ ?_
  · rintro i x σ H' hx ⟨v3, v5, Mi, rfl, hCi, hli, hK, hnew, hml, hold, hpv⟩
    obtain ⟨b, hb, rfl⟩ := mem_rf hx
    obtain ⟨e, he, hE⟩ := (hW.same (hK.tp hC)).each i b hb
    have hi : i < ws.length := (List.getElem?_eq_some_iff.mp he).1
    obtain ⟨dx', hc'⟩ := hCi.ob
    refine ⟨b, _, rfl, SqT.of hE, rfl, _, _, rfl, _, _, rfl, rfl, ?_⟩
    refine ⟨_, rfl, c, _, _, _, _, rfl, hc', T.k_Cells.cl, T.n_Cells__versions, cef_v _, v, rfl, .inl ⟨_, .inl hCi.at_⟩, _, rfl, ⟨Nat.zero_le _, fun l nl => ?_⟩⟩
    have sl := same_new (o := .lst []) nl
    refine ⟨toD Sum.inr vg Mi, Sum.inr e.1, sl _ _ hCi.at_, rfl, szl (by unfold toD; rw [List.length_map]; omega), fun v' hv' => ?_, fun hv' => ?_⟩
    · obtain ⟨q, hq, rfl⟩ : ∃ q, gget Mi e.1 = some q ∧ v' = vg q := by
        rw [toD_get inr_inj] at hv'
        cases z : gget Mi e.1 with
        | none => rw [z] at hv'; cases hv'
        | some q => rw [z] at hv'; exact ⟨q, rfl, (Option.some.inj hv').symm⟩
      have hqm := gget_some hq
      obtain ⟨ls, hV, hne, hln⟩ := hCi.vs _ hqm
      have hxs : H' q.1 = some (.lst (ls.map V.ref)) := hV.at_
      have hlen := hV.len
      have hln : q.2.length ≤ n + i := hln
      have hlen : ls.length = q.2.length := hlen
      have hq3 := sl _ _ hxs
      refine ⟨.inl ⟨rfl, _, SqL.of hq3⟩, _, rfl, _, rfl, (by show 2 ≤ sizeLine; decide), fun y ny => ?_⟩
      have sy := same_new (o := .tup [.int t, oV e.2]) ny
      have hq4 := sy _ _ hq3
      have s34 : Same H' (upd (upd H' l (.lst [])) y (.tup [.int t, oV e.2])) := sl.trans sy
      have hy4 : upd (upd H' l (.lst [])) y (.tup [.int t, oV e.2]) y = some (.tup [.int t, oV e.2]) := upd_same
      refine ⟨_, _, _, rfl, rfl, hq4, szl (by rw [List.length_map]; omega), ?_⟩
      generalize upd (upd H' l (.lst [])) y (.tup [.int t, oV e.2]) = H4 at s34 hy4 hq4
      have frame : ∀ b u, H' b = some u → b ≠ q.1 → upd H4 q.1 (.lst (ls.map V.ref ++ [.ref y])) b = some u := fun b u hb hne => by
        rw [upd_ne hne]
        exact s34 _ _ hb
      have kt := keys_take he
      refine ⟨_, _, gput Mi e.1 (q.1, q.2 ++ [(t, e.2)]), rfl, ⟨⟨dx', frame _ _ hc' fun w => ?_⟩, ?_, gnodup_put hCi.nd _ _, ?_, ?_⟩, ?_, ?_, ?_, ?_, ?_, ?_⟩
      · rw [w, hxs] at hc'
        cases hc'
      · rw [toD_again hCi.nd hq]
        refine frame _ _ hCi.at_ fun w => ?_
        have := hCi.at_
        rw [w, hxs] at this
        cases this
      · rw [ad_again hCi.nd hq]
        exact hCi.ad
      · intro e' he'
        rcases mem_gput he' with w | ⟨w, wne⟩
        · subst w
          refine ⟨ls ++ [y], ?_, by simp, by rw [List.length_append]; show q.2.length + 1 ≤ _; omega⟩
          have yq : y ≠ q.1 := fun w => by
            rw [w, hq4] at hy4
            cases hy4
          exact hV.app (fun b xs hb => frame _ _ hb fun w => by
            rw [w, hxs] at hb
            cases hb) (by rw [upd_ne yq]; exact hy4) upd_same
        · obtain ⟨as2, k1, k2, k3⟩ := hCi.vs e' w
          have ne : e'.2.1 ≠ q.1 := fun w2 => wne (congrArg Prod.fst (nodup_inj hCi.ad w hqm w2))
          exact ⟨as2, k1.frame frame ne (fun xs q2 => by
            rw [hxs] at q2
            cases q2), k2, by omega⟩
      · intro k
        rw [lastT_put, hli k, kt]
        by_cases ck : k = e.1
        · rw [if_pos ck, (show lastV _ = t from by first | exact lastV_app _ _ | rfl), if_pos (by rw [ck]; simp)]
        · rw [if_neg ck]
          by_cases cm : k ∈ wk (ws.take i)
          · rw [if_pos cm, if_pos (List.mem_append_left _ cm)]
          · rw [if_neg cm, if_neg (fun w => by
              rcases List.mem_append.mp w with w | w
              · exact cm w
              · exact ck (by simpa using w))]
      · intro b u hb hbv hbM
        refine frame _ _ (hK b u hb hbv hbM) fun w => ?_
        rcases hnew _ hqm with ⟨e0, h0, h0e⟩ | h0
        · exact hbM e0 h0 (w.trans h0e)
        · rw [← w, hb] at h0
          cases h0
      · intro e' he'
        rcases mem_gput he' with w | ⟨w, _⟩
        · rw [w]
          exact (show (∃ e0 ∈ M, q.1 = e0.2.1) ∨ H q.1 = none from hnew (e.1, q) hqm)
        · exact hnew e' w
      · have := gput_len Mi e.1 (q.1, q.2 ++ [(t, e.2)])
        omega
      · intro e0 h0
        obtain ⟨e1, g1, g2⟩ := hold e0 h0
        have : e1.2.1 ∈ (gput Mi e.1 (q.1, q.2 ++ [(t, e.2)])).map fun e => e.2.1 := by
          rw [ad_again hCi.nd hq]
          exact List.mem_map.mpr ⟨e1, g1, rfl⟩
        obtain ⟨e2, g3, g4⟩ := List.mem_map.mp this
        exact ⟨e2, g3, g4.trans g2⟩
      · rw [pvt_put, pstore_take he, ← hpv]
        unfold pput
        rw [pvt_get, hq]
        rfl
    · have hq : gget Mi e.1 = none := by
        rw [toD_get inr_inj] at hv'
        cases z : gget Mi e.1 with
        | none => rfl
        | some q => rw [z] at hv'; cases hv'
      have hkn := gget_none.mp hq
      have ep : putK (toD Sum.inr vg Mi) (Sum.inr e.1 : Key) (V.ref l) = toD Sum.inr vg (gput Mi e.1 (l, [(t, e.2)])) := toD_put inr_inj Mi e.1 (l, [(t, e.2)])
      rw [ep]
      have hv3 := sl _ _ hCi.at_
      have lv : l ≠ v := fun w => by
        have := hCi.at_
        rw [← w, nl] at this
        cases this
      have hl3 : upd (upd H' l (.lst [])) v (.dK (toD Sum.inr vg (gput Mi e.1 (l, [(t, e.2)])))) l = some (.lst []) := by
        rw [upd_ne lv, upd_same]
      refine ⟨.inl ⟨rfl, _, SqL.of hl3⟩, _, rfl, _, rfl, (by show 2 ≤ sizeLine; decide), fun y ny => ?_⟩
      have sy := same_new (o := .tup [.int t, oV e.2]) ny
      have hl4 := sy _ _ hl3
      have hv4 := sy _ _ (show upd (upd H' l (.lst [])) v (.dK (toD Sum.inr vg (gput Mi e.1 (l, [(t, e.2)])))) v = _ from upd_same)
      have f4 : ∀ b u, H' b = some u → b ≠ v → upd (upd (upd H' l (.lst [])) v (.dK (toD Sum.inr vg (gput Mi e.1 (l, [(t, e.2)]))))) y (.tup [.int t, oV e.2]) b = some u := fun b u hb hne => sy _ _ (by
        rw [upd_ne hne]
        exact sl _ _ hb)
      have hy4 : upd (upd (upd H' l (.lst [])) v (.dK (toD Sum.inr vg (gput Mi e.1 (l, [(t, e.2)]))))) y (.tup [.int t, oV e.2]) y = some (.tup [.int t, oV e.2]) := upd_same
      refine ⟨_, _, _, rfl, rfl, hl4, szl (by show 0 ≤ _; omega), ?_⟩
      generalize upd (upd (upd H' l (.lst [])) v (.dK (toD Sum.inr vg (gput Mi e.1 (l, [(t, e.2)]))))) y (.tup [.int t, oV e.2]) = H4 at f4 hy4 hl4 hv4
      have frame : ∀ b u, H' b = some u → b ≠ v → upd H4 l (.lst ([] ++ [.ref y])) b = some u := fun b u hb hne => by
        rw [upd_ne (fun w => by
          rw [w, nl] at hb
          cases hb)]
        exact f4 _ _ hb hne
      have kt := keys_take he
      have cv : c ≠ v := fun w => by
        rw [w, hCi.at_] at hc'
        cases hc'
      refine ⟨_, _, gput Mi e.1 (l, [(t, e.2)]), rfl, ⟨⟨dx', frame _ _ hc' cv⟩, ?_, gnodup_put hCi.nd _ _, ?_, ?_⟩, ?_, ?_, ?_, ?_, ?_, ?_⟩
      · rw [upd_ne (Ne.symm lv)]
        exact hv4
      · rw [gput_new hkn, List.map_append]
        refine List.nodup_append.mpr ⟨hCi.ad, by simp, fun x hx y' hy' => ?_⟩
        have e1 : y' = l := by simpa using hy'
        rw [e1]
        intro w
        obtain ⟨e', g1, g2⟩ := List.mem_map.mp hx
        obtain ⟨ys, z2, y2, k1, k2, k3⟩ := hCi.each e' g1
        rw [show e'.2.1 = l from g2.trans w, nl] at k2
        cases k2
      · intro e' he'
        rcases mem_gput he' with w | ⟨w, wne⟩
        · subst w
          have yl : y ≠ l := fun w => by
            rw [w, hl4] at hy4
            cases hy4
          exact ⟨[y], ⟨upd_same, rfl, fun j b2 hj => by
            match j, hj with
            | 0, hj =>
              have : y = b2 := Option.some.inj hj
              subst this
              exact ⟨(t, e.2), rfl, by rw [upd_ne yl]; exact hy4⟩⟩, by simp, by show 1 ≤ _; omega⟩
        · obtain ⟨as2, k1, k2, k3⟩ := hCi.vs e' w
          exact ⟨as2, k1.frame frame (fun w2 => by
            have := hCi.at_
            rw [← w2, k1.at_] at this
            cases this) (fun xs q2 => by
            rw [hCi.at_] at q2
            cases q2), k2, by omega⟩
      · intro k
        rw [lastT_put, hli k, kt]
        by_cases ck : k = e.1
        · rw [if_pos ck, (show lastV _ = t from by first | exact lastV_app _ _ | rfl), if_pos (by rw [ck]; simp)]
        · rw [if_neg ck]
          by_cases cm : k ∈ wk (ws.take i)
          · rw [if_pos cm, if_pos (List.mem_append_left _ cm)]
          · rw [if_neg cm, if_neg (fun w => by
              rcases List.mem_append.mp w with w | w
              · exact cm w
              · exact ck (by simpa using w))]
      · intro b u hb hbv hbM
        exact frame _ _ (hK b u hb hbv hbM) hbv
      · intro e' he'
        rcases mem_gput he' with w | ⟨w, _⟩
        · rw [w]
          refine .inr ?_
          cases z : H l with
          | none => rfl
          | some u =>
            exfalso
            have := hK l u z lv fun e0 h0 w2 => by
              obtain ⟨e1, g1, g2⟩ := hold e0 h0
              obtain ⟨ys, z2, y2, k1, k2, k3⟩ := hCi.each e1 g1
              rw [show e1.2.1 = l from g2.trans w2.symm, nl] at k2
              cases k2
            rw [nl] at this
            cases this
        · exact hnew e' w
      · have := gput_len Mi e.1 (l, [(t, e.2)])
        omega
      · intro e0 h0
        obtain ⟨e1, g1, g2⟩ := hold e0 h0
        exact ⟨e1, by rw [gput_new hkn]; exact List.mem_append_left _ g1, g2⟩
      · rw [pvt_put, pstore_take he, ← hpv]
        unfold pput
        rw [pvt_get, hq]
        rfl
  · rintro σ H' ⟨v3, v5, Mi, rfl, hCi, hli, hK, hnew, hml, hold, hpv⟩
    rw [List.length_map, hW.len] at hCi hli hml
    rw [List.take_length] at hli
    rw [List.length_map, hW.len, List.take_length] at hpv
    exact h1 H' Mi hCi hli hK hnew hml hold hpv

--PART /work/steering/wip/parts/sv5.lean
/-! ### states, pure -/
structure PS where
  fl : Int
  held : List (Int × Hd)
  outs : List Int
inductive Rec
  | floor (t : Int) | prep (x t ld : Int) (rs : List Str) (ws : Mp) | dec (d : Bool) (x t : Int)
def step (p : PS) : Rec → PS
  | .floor t => if t ≤ p.fl then p else { p with fl := t }
  | .prep x t ld rs ws => if x ∈ gkeys p.held then p else if x ∈ p.outs then p else if t ≤ p.fl then p else if (p.held.any fun e => meets rs ws e.2) = true then p else ⟨t, p.held ++ [(x, ⟨t, ld, rs, ws⟩)], p.outs⟩
  | .dec _ x t => if x ∈ p.outs then p else if t > 0 then (match gget p.held x with
      | none => p
      | some h => if h.t > t then p else ⟨if t > p.fl then t else p.fl, gdrop p.held x, p.outs ++ [x]⟩) else ⟨p.fl, gdrop p.held x, p.outs ++ [x]⟩
noncomputable def okR (p : PS) (r : Rec) : Bool := @decide (step p r ≠ p) (Classical.propDecidable _)
theorem okR_no {p : PS} {r : Rec} (e : step p r = p) : okR p r = false := by
  unfold okR
  exact @decide_eq_false _ (Classical.propDecidable _) fun q => q e
theorem okR_yes {p : PS} {r : Rec} (e : step p r ≠ p) : okR p r = true := by
  unfold okR
  exact @decide_eq_true _ (Classical.propDecidable _) e
/-- the outcomes and the versions behind a record -/
noncomputable def nO (p : PS) (O : List (Int × Int)) (r : Rec) : List (Int × Int) := match r with
  | .dec _ x t => if okR p r = true then O ++ [(x, t)] else O
  | _ => O
def vd (p : PS) (R : Vers) (x t : Int) : Vers := if t > 0 then (match gget p.held x with
  | some h => pstore R t h.ws
  | none => R) else R
noncomputable def nV (p : PS) (R : Vers) (r : Rec) : Vers := match r with
  | .dec _ x t => if okR p r = true then vd p R x t else R
  | _ => R
def pst (M : HM) : List (Int × Hd) := M.map fun e => (e.1, e.2.2)
theorem pst_keys (M : HM) : gkeys (pst M) = gkeys M := by
  unfold gkeys pst
  rw [List.map_map]
  rfl
theorem pst_get (M : HM) (k : Int) : gget (pst M) k = (gget M k).map (·.2) := by
  unfold gget pst
  induction M with
  | nil => rfl
  | cons a r ih =>
    rw [List.map_cons, List.find?_cons, List.find?_cons]
    show (match decide (a.1 = k) with | true => some (a.1, a.2.2) | false => List.find? _ _).map (fun e : Int × Hd => e.2) = _
    cases decide (a.1 = k) with
    | true => rfl
    | false => exact ih
theorem pst_drop (M : HM) (k : Int) : gdrop (pst M) k = pst (gdrop M k) := by
  unfold gdrop pst
  rw [List.filter_map]
  rfl
theorem pst_any (M : HM) (f : Hd → Bool) : ((pst M).any fun (e : Int × Hd) => f e.2) = M.any fun (e : Int × (Addr × Hd)) => f e.2.2 := by
  unfold pst
  rw [List.any_map]
  rfl
theorem common_symm (a b : List Str) : common a b = common b a := by
  have gen : ∀ a b, common a b = true → common b a = true := fun a b h => by
    obtain ⟨x, hx, h2⟩ := List.any_eq_true.mp h
    exact List.any_eq_true.mpr ⟨x, by simpa using h2, by simpa using hx⟩
  cases h : common a b with
  | true => exact (gen _ _ h).symm
  | false =>
    cases h2 : common b a with
    | true => rw [gen _ _ h2] at h; cases h
    | false => rfl
theorem common_app (a b c : List Str) : common a (b ++ c) = (common a b || common a c) := by
  cases h : common a (b ++ c) with
  | true =>
    obtain ⟨x, hx, h2⟩ := List.any_eq_true.mp h
    have h2 : x ∈ b ++ c := by simpa using h2
    rcases List.mem_append.mp h2 with q | q
    · rw [show common a b = true from List.any_eq_true.mpr ⟨x, hx, by simpa using q⟩]; rfl
    · rw [show common a c = true from List.any_eq_true.mpr ⟨x, hx, by simpa using q⟩, Bool.or_true]
  | false =>
    have no : ∀ d, (∀ x, x ∈ d → x ∈ b ++ c) → common a d = false := fun d hd => by
      cases q : common a d with
      | false => rfl
      | true =>
        obtain ⟨x, hx, h2⟩ := List.any_eq_true.mp q
        have : common a (b ++ c) = true := List.any_eq_true.mpr ⟨x, hx, by simpa using hd x (by simpa using h2)⟩
        rw [this] at h
        cases h
    rw [no b fun x h => List.mem_append_left _ h, no c fun x h => List.mem_append_right _ h]
    rfl
theorem meets_symm (g h : Hd) : meets g.rs g.ws h = meets h.rs h.ws g := by
  unfold meets
  rw [common_app, common_app, common_symm (wk h.ws) g.rs, common_symm (wk h.ws) (wk g.ws), common_symm h.rs (wk g.ws)]
  cases common g.rs (wk h.ws) <;> cases common (wk g.ws) (wk h.ws) <;> cases common (wk g.ws) h.rs <;> rfl
/-- what always holds -/
structure Good (p : PS) (V : VM) : Prop where
  lo : ∀ k, lastT V k ≤ p.fl
  hd : ∀ e ∈ p.held, e.2.t ≤ p.fl ∧ ∀ k ∈ wk e.2.ws, lastT V k < e.2.t
  nc : ∀ e ∈ p.held, ∀ e' ∈ p.held, e.1 ≠ e'.1 → meets e.2.rs e.2.ws e'.2 = false
/-- the record at an address -/
inductive RecAt (H : Hp) : Addr → Rec → Prop
  | floor (a : Addr) (t : Int) (h : H a = some (.tup [.str "floor", .int t])) : RecAt H a (.floor t)
  | prep (a r w : Addr) (as : List Addr) (x t ld : Int) (rs : List Str) (ws : Mp) (h : H a = some (.tup [.str "prepare", .int x, .int t, .int ld, .ref r, .ref w])) (hr : H r = some (.tup (rs.map V.str))) (hw : WrAt H w as ws) : RecAt H a (.prep x t ld rs ws)
  | dec (a : Addr) (d : Bool) (x t : Int) (h : H a = some (.tup [.str (if d = true then "decide" else "done"), .int x, .int t])) : RecAt H a (.dec d x t)
theorem RecAt.prep_inv {H : Hp} {a : Addr} {x t ld : Int} {rs : List Str} {ws : Mp} (h : RecAt H a (.prep x t ld rs ws)) : ∃ r w as, H a = some (.tup [.str "prepare", .int x, .int t, .int ld, .ref r, .ref w]) ∧ H r = some (.tup (rs.map V.str)) ∧ WrAt H w as ws := by
  cases h
  exact ⟨_, _, _, ‹_›, ‹_›, ‹_›⟩
structure SS where
  fl : Int
  M : HM
  O : List (Int × Int)
  V : VM
  n : Nat
def SS.p (S : SS) : PS := ⟨S.fl, pst S.M, gkeys S.O⟩
structure StAt (T : Env K mg) (H : Hp) (a c v h o : Addr) (S : SS) : Prop where
  ob : ObAt T H a c h o S.fl
  he : HeldAt H h S.M
  ou : H o = some (.dK (toD Sum.inl V.int S.O))
  ce : CeAt T H c v S.V S.n
  ho : h ≠ o
  hv : h ≠ v
  ov : o ≠ v
  ca : c ≠ a
  bd : ∀ e ∈ S.M, e.2.2.rs.length ≤ 30 ∧ e.2.2.ws.length ≤ 30
/-- all but the state stays -/
def Ks (H H' : Hp) (a v h o : Addr) (V : VM) : Prop := ∀ b u, H b = some u → b ≠ a → b ≠ h → b ≠ o → b ≠ v → (∀ e ∈ V, b ≠ e.2.1) → H' b = some u
def sp_State__apply_floor (T : Env K mg) : Sp := fun vs H Q E => ∃ (a c v h o : Addr) (S : SS) (t : Int), vs = [.ref a, .int t] ∧ StAt T H a c v h o S ∧
  ∀ b H' S', StAt T H' a c v h o S' → S'.p = step S.p (.floor t) → b = okR S.p (.floor t) → S'.V = S.V → S'.n = S.n → S'.O = S.O → S'.M = S.M → Ks H H' a v h o S.V → Q (.bl b) H'
theorem ok_State__apply_floor (T : Env K mg) : FnOk P w K mg base (L2.CX P w) 1 T.a_State__apply_floor T.d_State__apply_floor ["self", "time"] (sp_State__apply_floor T) := by
  refine T.F_State__apply_floor.okX sc_State__apply_floor (fun vs H Q E h => by obtain ⟨_, _, _, _, _, _, _, rfl, _⟩ := h; rfl) (fun cdv A outer s H vs Q E hr h => ?_)
  obtain ⟨a, c, v, h, o, S, t, rfl, hS, h1⟩ := h
  refine ⟨_, (pss_cons (ps_if (pt_cmpR op_le (pv 1) (pe_fld (pv 0) rfl) (nomark _)) (pss_one (ps_ret pe_bl)) pss_nil)
      (pss_cons (ps_fld (pv 0) (pv 1) rfl)
      (pss_one (ps_ret pe_bl)))), ?_⟩
  obtain ⟨dx, ha⟩ := id hS.ob
  refine ⟨_, rfl, _, rfl, a, _, _, _, _, rfl, ha, T.k_State.cl, T.n_State__floor, stf_floor _ _ _ _, _, _, rfl, rfl, _, rfl, iteD (fun k => ?_) (fun k => ?_)⟩
  · exact h1 false H S hS (by unfold step; exact (if_pos k).symm) (okR_no (show step S.p (.floor t) = S.p from if_pos k)).symm rfl rfl rfl rfl fun b u hb _ _ _ _ _ => hb
  · refine ⟨_, rfl, _, rfl, a, _, _, _, rfl, ha, T.k_State.cl, T.n_State__floor, (by rw [stf_eq]; show 4 < 1000; decide), ?_⟩
    rw [stf_put]
    have ne : ∀ {x u}, H x = some u → (∀ C d f, u ≠ .ins C d f) → x ≠ a := fun hx hu q => by
      rw [q, ha] at hx
      exact hu _ _ _ (Option.some.inj hx).symm
    have fr : ∀ b u, H b = some u → b ≠ a → upd H a (.ins T.a_State dx (stf c h o t)) b = some u := fun b u hb hn => by rw [upd_ne hn]; exact hb
    have tp : Tp H (upd H a (.ins T.a_State dx (stf c h o t))) := fun b xs hb => fr _ _ hb (ne hb fun _ _ _ q => by cases q)
    have ca := hS.ca
    refine h1 true _ ⟨t, S.M, S.O, S.V, S.n⟩ ⟨⟨dx, upd_same⟩, ⟨fr _ _ hS.he.at_ (ne hS.he.at_ fun _ _ _ q => by cases q), hS.he.nd, fun e he => (hS.he.each e he).same tp⟩, fr _ _ hS.ou (ne hS.ou fun _ _ _ q => by cases q), ⟨?_, fr _ _ hS.ce.at_ (ne hS.ce.at_ fun _ _ _ q => by cases q), hS.ce.nd, hS.ce.ad, fun e he => ?_⟩, hS.ho, hS.hv, hS.ov, hS.ca, hS.bd⟩ (by unfold step; exact (if_neg k).symm) (okR_yes fun q => by
        have e : step S.p (.floor t) = { S.p with fl := t } := if_neg k
        rw [e] at q
        have : t = S.fl := congrArg PS.fl q
        omega).symm rfl rfl rfl rfl fun b u hb hn _ _ _ _ => fr _ _ hb hn
    · obtain ⟨d2, hc⟩ := hS.ce.ob
      exact ⟨d2, fr _ _ hc ca⟩
    · obtain ⟨as, k1, k2, k3⟩ := hS.ce.vs e he
      exact ⟨as, k1.frame fr (ne k1.at_ fun _ _ _ q => by cases q) (fun xs q => by
        rw [ha] at q
        cases q), k2, k3⟩

--PART /work/steering/wip/parts/sv6.lean
theorem clash_nil {M : HM} (hn : (gkeys M).Nodup) {rs : List Str} {ws : Mp} {ys : List Int} (h : SrtI (gkeys M) ys) : clash M rs ws ys = [] ↔ (M.any fun e => meets rs ws e.2.2) = false := by
  constructor
  · intro q
    cases z : M.any fun e => meets rs ws e.2.2 with
    | false => rfl
    | true =>
      obtain ⟨e, he, hm⟩ := List.any_eq_true.mp z
      have : e.1 ∈ clash M rs ws ys := List.mem_filter.mpr ⟨h.1.mem_iff.mpr (List.mem_map.mpr ⟨e, he, rfl⟩), by rw [gget_mem hn (show (e.1, e.2) ∈ M from he)]; exact hm⟩
      rw [q] at this
      cases this
  · intro q
    refine List.filter_eq_nil_iff.mpr fun x _ => ?_
    cases z : gget M x with
    | none => simp
    | some e =>
      have : ¬ meets rs ws e.2 = true := fun w => by
        have : (M.any fun e => meets rs ws e.2.2) = true := List.any_eq_true.mpr ⟨(x, e), gget_some z, w⟩
        rw [q] at this
        cases this
      exact this
theorem some_map {β γ : Type} (o : Option β) (f : β → γ) : (o.map f).isSome = o.isSome := by cases o <;> rfl
theorem gget_is {κ β : Type} [DecidableEq κ] (M : List (κ × β)) (k : κ) : (gget M k).isSome = decide (k ∈ gkeys M) := by
  cases q : gget M k with
  | none => exact (decide_eq_false (gget_none.mp q)).symm
  | some e => exact (decide_eq_true (by
      by_cases c : k ∈ gkeys M
      · exact c
      · rw [gget_none.mpr c] at q
        cases q)).symm
theorem CeAt.to {T : Env K mg} {H H' : Hp} {c v : Addr} {M : VM} {n : Nat} (x : CeAt T H c v M n) (f : ∀ b u, H b = some u → (b = c ∨ b = v ∨ (∃ xs, u = .lst xs) ∨ ∃ xs, u = .tup xs) → H' b = some u) : CeAt T H' c v M n := ⟨x.ob.elim fun dx h => ⟨dx, f _ _ h (.inl rfl)⟩, f _ _ x.at_ (.inr (.inl rfl)), x.nd, x.ad, fun e he => by
  obtain ⟨as, h1, h2, h3⟩ := x.vs e he
  exact ⟨as, ⟨f _ _ h1.at_ (.inr (.inr (.inl ⟨_, rfl⟩))), h1.len, fun j b hj => by
    obtain ⟨p, g1, g2⟩ := h1.each j b hj
    exact ⟨p, g1, f _ _ g2 (.inr (.inr (.inr ⟨_, rfl⟩)))⟩⟩, h2, h3⟩⟩
def sp_State__apply_prepare (T : Env K mg) : Sp := fun vs H Q E => ∃ (a c v h o ra : Addr) (S : SS) (x t ld : Int) (rs : List Str) (ws : Mp), vs = [.ref a, .ref ra] ∧ StAt T H a c v h o S ∧ RecAt H ra (.prep x t ld rs ws) ∧ rs.length ≤ 30 ∧ ws.length ≤ 30 ∧ S.M.length ≤ 59 ∧
  ∀ b H' S', StAt T H' a c v h o S' → S'.p = step S.p (.prep x t ld rs ws) → b = okR S.p (.prep x t ld rs ws) → S'.V = S.V → S'.n = S.n → S'.O = S.O → S'.M.length ≤ S.M.length + 1 → Ks H H' a v h o S.V → Q (.bl b) H'
theorem ok_State__apply_prepare (T : Env K mg) : FnOk P w K mg base (L2.CX P w) 3 T.a_State__apply_prepare T.d_State__apply_prepare ["self", "record"] (sp_State__apply_prepare T) := by
  refine T.F_State__apply_prepare.okX sc_State__apply_prepare (fun vs H Q E h => by obtain ⟨_, _, _, _, _, _, _, _, _, _, _, _, rfl, _⟩ := h; rfl) (fun cdv A outer s H vs Q E hr h => ?_)
  obtain ⟨a, c, v, h, o, ra, S, x, t, ld, rs, ws, rfl, hS, hR, hrl, hwl, hMl, h1⟩ := h
  have hu64 := hu64_of hr
  have G_State_conflicts := ok_State_conflicts (P := P) (w := w) (base := base) T
  refine ⟨_, (pss_cons (ps_asg (pv 1) (pg_tup rfl (pgs_cons (pg_name (i := 2) sc_State__apply_prepare.nd rfl (Or.inl rfl)) (pgs_cons (pg_name (i := 3) sc_State__apply_prepare.nd rfl (Or.inl rfl)) (pgs_cons (pg_name (i := 4) sc_State__apply_prepare.nd rfl (Or.inl rfl)) (pgs_cons (pg_name (i := 5) sc_State__apply_prepare.nd rfl (Or.inl rfl)) (pgs_cons (pg_name (i := 6) sc_State__apply_prepare.nd rfl (Or.inl rfl)) (pgs_cons (pg_name (i := 7) sc_State__apply_prepare.nd rfl (Or.inl rfl)) pgs_nil))))))))
      (pss_cons (ps_if (PW.pt (pw_or (pt_cmp (pc_din (hu_of hr) (pv 3) (pe_fld (pv 0) rfl)) rfl) (pw_or (pt_cmp (pc_din (hu_of hr) (pv 3) (pe_fld (pv 0) rfl)) rfl) (pw_or1 (pt_cmpR op_le (pv 4) (pe_fld (pv 0) rfl) (nomark _)))))) (pss_one (ps_ret pe_bl)) pss_nil)
      (pss_cons (ps_if (pt_cmpR (op_neD hu64) (pe_meth (pv 0) T.k_State.cl T.m_State_conflicts G_State_conflicts (hr.mono (by decide)) T.b_State_conflicts .nil passL (pa_cons (pv 6) (pa_cons (pv 7) pa_nil))) (pe_lst pa_nil) (nomark _)) (pss_one (ps_ret pe_bl)) pss_nil)
      (pss_cons (ps_dput (hu_of hr) (pe_fld (pv 0) rfl) (pv 3) (pe_tup (pa_cons (pv 4) (pa_cons (pv 5) (pa_cons (pv 6) (pa_cons (pv 7) pa_nil))))) rfl)
      (pss_cons (ps_fld (pv 0) (pv 4) rfl)
      (pss_one (ps_ret pe_bl))))))), ?_⟩
  obtain ⟨dx, ha⟩ := id hS.ob
  obtain ⟨r, wA, as, hra, hr0, hw⟩ := hR.prep_inv
  refine ⟨_, rfl, ra, _, rfl, SqT.of hra, rfl, _, _, rfl, _, _, rfl, _, _, rfl, _, _, rfl, _, _, rfl, _, _, rfl, rfl, ?_⟩
  have hstep : step S.p (.prep x t ld rs ws) = if x ∈ gkeys S.M then S.p else if x ∈ gkeys S.O then S.p else if t ≤ S.fl then S.p else if (S.M.any fun e => meets rs ws e.2.2) = true then S.p else ⟨t, pst S.M ++ [(x, ⟨t, ld, rs, ws⟩)], gkeys S.O⟩ := by
    show (if x ∈ gkeys (pst S.M) then _ else if x ∈ gkeys S.O then _ else if t ≤ S.fl then _ else if ((pst S.M).any fun (e : Int × Hd) => meets rs ws e.2) = true then _ else _) = _
    rw [pst_keys, pst_any]
    rfl
  have no : ∀ H', Same H H' → step S.p (.prep x t ld rs ws) = S.p → Q (.bl false) H' := fun H' s' e => h1 false H' S ⟨hS.ob.same s', hS.he.same s', s' _ _ hS.ou, hS.ce.same s', hS.ho, hS.hv, hS.ov, hS.ca, hS.bd⟩ e.symm (okR_no e).symm rfl rfl rfl (by omega) fun b u hb _ _ _ _ _ => s' _ _ hb
  refine ⟨_, rfl, _, rfl, a, _, _, _, _, rfl, ha, T.k_State.cl, T.n_State__held, stf_held _ _ _ _, h, _, rfl, dgetI hS.he.at_ x, _, rfl, ?_⟩
  rw [some_map, gget_is]
  refine iteD (fun c1 => no _ (Same.refl _) (by rw [hstep, if_pos c1])) (fun c1 => ?_)
  refine ⟨_, rfl, _, rfl, a, _, _, _, _, rfl, ha, T.k_State.cl, T.n_State__outcomes, stf_outs _ _ _ _, o, _, rfl, dgetI hS.ou x, _, rfl, ?_⟩
  rw [some_map, gget_is]
  refine iteD (fun c2 => no _ (Same.refl _) (by rw [hstep, if_neg c1, if_pos c2])) (fun c2 => ?_)
  refine ⟨_, rfl, _, rfl, a, _, _, _, _, rfl, ha, T.k_State.cl, T.n_State__floor, stf_floor _ _ _ _, _, _, rfl, rfl, _, rfl, iteD (fun c3 => no _ (Same.refl _) (by rw [hstep, if_neg c1, if_neg c2, if_pos c3])) (fun c3 => ?_)⟩
  refine ⟨_, rfl, a, _, _, rfl, ha, stf_no _ _ _ _ (by decide +kernel) (by decide +kernel) (by decide +kernel) (by decide +kernel), _, rfl, _, rfl, a, c, h, o, S.fl, S.M, r, wA, as, rs, ws, rfl, hS.ob, hS.he, by omega, hr0, hw, hrl, hwl, hS.bd, fun p ys H1 s1 np hsrt hp => ?_⟩
  refine ⟨Nat.zero_le _, fun q nq => ?_⟩
  have s2 := s1.trans (same_new (o := .lst []) nq)
  refine ⟨_, _, dp_ints (SqL.of (same_new nq _ _ hp)), dp_ints (ns := []) (SqL.of upd_same), shaped_dInts _, shaped_dInts _, _, rfl, ?_⟩
  rw [eqv_dInts]
  refine iteN (fun c4 => no _ s2 ?_) (fun c4 => ?_)
  · rw [hstep, if_neg c1, if_neg c2, if_neg c3, if_pos]
    cases z : S.M.any fun e => meets rs ws e.2.2 with
    | true => rfl
    | false => exact absurd ((clash_nil hS.he.nd hsrt).mpr z) c4
  have hz := (clash_nil hS.he.nd hsrt).mp c4
  have ha2 := s2 _ _ ha
  have hra2 := s2 _ _ hra
  show tSeq _ _ _ _ (upd H1 q (.lst []))
  generalize upd H1 q (.lst []) = H2 at s2 ha2 hra2
  refine ⟨_, rfl, _, rfl, _, rfl, _, rfl, (by show 4 ≤ sizeLine; decide), fun z nz => ?_⟩
  have s3 := s2.trans (same_new (o := .tup [.int t, .int ld, .ref r, .ref wA]) nz)
  have hz3 : upd H2 z (.tup [.int t, .int ld, .ref r, .ref wA]) z = some (.tup [.int t, .int ld, .ref r, .ref wA]) := upd_same
  generalize upd H2 z (.tup [.int t, .int ld, .ref r, .ref wA]) = H3 at s3 hz3
  have ha3 := s3 _ _ ha
  have hh3 := s3 _ _ hS.he.at_
  refine ⟨_, rfl, a, _, _, _, _, rfl, ha3, T.k_State.cl, T.n_State__held, stf_held _ _ _ _, _, rfl, h, _, rfl, dputI hh3 (by omega) x (z, ⟨t, ld, rs, ws⟩), ?_⟩
  have ah : a ≠ h := fun w => by
    rw [w, hS.he.at_] at ha
    cases ha
  have ha4 : upd H3 h (.dK (toD Sum.inl hg (gput S.M x (z, ⟨t, ld, rs, ws⟩)))) a = some (.ins T.a_State dx (stf c h o S.fl)) := by
    rw [upd_ne ah]
    exact ha3
  refine ⟨_, rfl, _, rfl, a, _, _, _, rfl, ha4, T.k_State.cl, T.n_State__floor, (by rw [stf_eq]; show 4 < 1000; decide), ?_⟩
  rw [stf_put]
  have c1' : x ∉ gkeys S.M := c1
  have hput := gput_new (v := (z, (⟨t, ld, rs, ws⟩ : Hd))) c1'
  have fr : ∀ b u, H3 b = some u → b ≠ a → b ≠ h → upd (upd H3 h (.dK (toD Sum.inl hg (gput S.M x (z, ⟨t, ld, rs, ws⟩))))) a (.ins T.a_State dx (stf c h o t)) b = some u := fun b u hb h5 h6 => by
    rw [upd_ne h5, upd_ne h6]
    exact hb
  have tp : Tp H3 (upd (upd H3 h (.dK (toD Sum.inl hg (gput S.M x (z, ⟨t, ld, rs, ws⟩))))) a (.ins T.a_State dx (stf c h o t))) := fun b xs hb => fr _ _ hb (fun w => by
    rw [w, ha3] at hb
    cases hb) fun w => by
    rw [w, hh3] at hb
    cases hb
  have oa : o ≠ a := fun w => by
    have := hS.ou
    rw [w, ha] at this
    cases this
  have ch : c ≠ h := fun w => by
    obtain ⟨d2, hc⟩ := hS.ce.ob
    rw [w, hS.he.at_] at hc
    cases hc
  have va : v ≠ a := fun w => by
    have := hS.ce.at_
    rw [w, ha] at this
    cases this
  refine h1 true _ ⟨t, gput S.M x (z, ⟨t, ld, rs, ws⟩), S.O, S.V, S.n⟩ ⟨⟨dx, upd_same⟩, ⟨?_, gnodup_put hS.he.nd _ _, fun e he => ?_⟩, fr _ _ (s3 _ _ hS.ou) oa (Ne.symm hS.ho), (hS.ce.same s3).to fun b u hb hk => fr _ _ hb ?_ ?_, hS.ho, hS.hv, hS.ov, hS.ca, fun e he => ?_⟩ ?_ ?_ rfl rfl rfl (gput_len _ _ _) fun b u hb h5 h6 _ _ _ => fr _ _ (s3 _ _ hb) h5 h6
  · rw [upd_ne (Ne.symm ah), upd_same]
  · rw [hput] at he
    rcases List.mem_append.mp he with w | w
    · exact (hS.he.each e w).same ((Same.tp s3).trans tp)
    · have : e = (x, (z, ⟨t, ld, rs, ws⟩)) := by simpa using w
      rw [this]
      exact ⟨r, wA, as, tp _ _ hz3, tp _ _ (s3 _ _ hr0), hw.same ((Same.tp s3).trans tp)⟩
  · rcases hk with w | w | ⟨xs, w⟩ | ⟨xs, w⟩
    · rw [w]; exact hS.ca
    · rw [w]; exact va
    · intro q
      rw [q, ha3, w] at hb
      cases hb
    · intro q
      rw [q, ha3, w] at hb
      cases hb
  · rcases hk with w | w | ⟨xs, w⟩ | ⟨xs, w⟩
    · rw [w]; exact ch
    · rw [w]; exact Ne.symm hS.hv
    · intro q
      rw [q, hh3, w] at hb
      cases hb
    · intro q
      rw [q, hh3, w] at hb
      cases hb
  · rw [hput] at he
    rcases List.mem_append.mp he with w | w
    · exact hS.bd e w
    · have : e = (x, (z, ⟨t, ld, rs, ws⟩)) := by simpa using w
      rw [this]
      exact ⟨hrl, hwl⟩
  · rw [hstep, if_neg c1, if_neg c2, if_neg c3, hz, if_neg (by decide), hput]
    show (⟨t, pst (S.M ++ [_]), gkeys S.O⟩ : PS) = _
    unfold pst
    rw [List.map_append]
    rfl
  · refine (okR_yes fun q => ?_).symm
    rw [hstep, if_neg c1, if_neg c2, if_neg c3, hz, if_neg (by decide)] at q
    have := congrArg (fun p : PS => p.held.length) q
    have : (pst S.M ++ [(x, (⟨t, ld, rs, ws⟩ : Hd))]).length = (pst S.M).length := this
    rw [List.length_append] at this
    have : (pst S.M).length + 1 = (pst S.M).length := this
    omega

--PART /work/steering/wip/parts/sv7.lean
theorem Good.drop {p : PS} {V : VM} (g : Good p V) (x : Int) (outs : List Int) : Good ⟨p.fl, gdrop p.held x, outs⟩ V := by
  refine ⟨g.lo, fun e he => g.hd e (List.mem_filter.mp he).1, fun e he e' he' ne => g.nc e (List.mem_filter.mp he).1 e' (List.mem_filter.mp he').1 ne⟩
theorem Good.dec {p : PS} {V V' : VM} (g : Good p V) {x t : Int} {hd : Hd} (hx : (x, hd) ∈ p.held) (hl : ∀ k, lastT V' k = if k ∈ wk hd.ws then t else lastT V k) (outs : List Int) : Good ⟨if t > p.fl then t else p.fl, gdrop p.held x, outs⟩ V' := by
  refine ⟨fun k => ?_, fun e he => ?_, fun e he e' he' ne => g.nc e (List.mem_filter.mp he).1 e' (List.mem_filter.mp he').1 ne⟩
  · rw [hl k]
    have := g.lo k
    show _ ≤ (if t > p.fl then t else p.fl)
    split <;> split <;> omega
  · obtain ⟨h1, h2⟩ := List.mem_filter.mp he
    have ne : e.1 ≠ x := by simpa using h2
    obtain ⟨g1, g2⟩ := g.hd e h1
    refine ⟨?_, fun k hk => ?_⟩
    · show _ ≤ (if t > p.fl then t else p.fl)
      split <;> omega
    · rw [hl k]
      by_cases c : k ∈ wk hd.ws
      · exfalso
        have m := g.nc e h1 (x, hd) hx ne
        have : meets e.2.rs e.2.ws hd = true := by
          unfold meets
          rw [show common (wk hd.ws) (e.2.rs ++ wk e.2.ws) = true from List.any_eq_true.mpr ⟨k, c, by simp [hk]⟩]
          rfl
        rw [this] at m
        cases m
      · rw [if_neg c]
        exact g2 k hk
theorem Good.floor {p : PS} {V : VM} (g : Good p V) (t : Int) : Good (step p (.floor t)) V := by
  show Good (if t ≤ p.fl then p else { p with fl := t }) V
  by_cases c : t ≤ p.fl
  · rw [if_pos c]
    exact g
  · rw [if_neg c]
    exact ⟨fun k => by have := g.lo k; show _ ≤ t; omega, fun e he => ⟨by have := (g.hd e he).1; show _ ≤ t; omega, (g.hd e he).2⟩, g.nc⟩
theorem Good.prep {p : PS} {V : VM} (g : Good p V) (x t ld : Int) (rs : List Str) (ws : Mp) : Good (step p (.prep x t ld rs ws)) V := by
  show Good (if x ∈ gkeys p.held then p else if x ∈ p.outs then p else if t ≤ p.fl then p else if (p.held.any fun e => meets rs ws e.2) = true then p else ⟨t, p.held ++ [(x, ⟨t, ld, rs, ws⟩)], p.outs⟩) V
  by_cases c1 : x ∈ gkeys p.held
  · rw [if_pos c1]; exact g
  rw [if_neg c1]
  by_cases c2 : x ∈ p.outs
  · rw [if_pos c2]; exact g
  rw [if_neg c2]
  by_cases c3 : t ≤ p.fl
  · rw [if_pos c3]; exact g
  rw [if_neg c3]
  by_cases c4 : (p.held.any fun e => meets rs ws e.2) = true
  · rw [if_pos c4]; exact g
  rw [if_neg c4]
  have c4 : ∀ e ∈ p.held, meets rs ws e.2 = false := fun e he => by
    cases q : meets rs ws e.2 with
    | false => rfl
    | true => exact absurd (List.any_eq_true.mpr ⟨e, he, q⟩) c4
  refine ⟨fun k => by have := g.lo k; show _ ≤ t; omega, fun e he => ?_, fun e he e' he' ne => ?_⟩
  · rcases List.mem_append.mp he with q | q
    · exact ⟨by have := (g.hd e q).1; show _ ≤ t; omega, (g.hd e q).2⟩
    · have : e = (x, ⟨t, ld, rs, ws⟩) := by simpa using q
      rw [this]
      exact ⟨Int.le_refl _, fun k _ => by have := g.lo k; show _ < t; omega⟩
  · rcases List.mem_append.mp he with q | q
    · rcases List.mem_append.mp he' with q' | q'
      · exact g.nc e q e' q' ne
      · have : e' = (x, ⟨t, ld, rs, ws⟩) := by simpa using q'
        rw [this]
        show meets e.2.rs e.2.ws ⟨t, ld, rs, ws⟩ = false
        rw [meets_symm e.2 ⟨t, ld, rs, ws⟩]
        exact c4 e q
    · have e1 : e = (x, ⟨t, ld, rs, ws⟩) := by simpa using q
      rcases List.mem_append.mp he' with q' | q'
      · rw [e1]
        exact c4 e' q'
      · have e2 : e' = (x, ⟨t, ld, rs, ws⟩) := by simpa using q'
        rw [e1, e2] at ne
        exact absurd rfl ne
/-- what an applied record leaves -/
structure Post (T : Env K mg) (H H' : Hp) (a c v h o : Addr) (S S' : SS) (r : Rec) (b : Bool) : Prop where
  st : StAt T H' a c v h o S'
  pr : S'.p = step S.p r
  good : Good S'.p S'.V
  keep : Ks H H' a v h o S.V
  nw : ∀ e ∈ S'.V, (∃ e0 ∈ S.V, e.2.1 = e0.2.1) ∨ H e.2.1 = none
  old : ∀ e0 ∈ S.V, ∃ e ∈ S'.V, e.2.1 = e0.2.1
  ln : S'.n ≤ S.n + 30
  lv : S'.V.length ≤ S.V.length + 30
  lo : S'.O.length ≤ S.O.length + 1
  lm : S'.M.length ≤ S.M.length + 1
  ok : b = okR S.p r
  no : S'.O = nO S.p S.O r
  nv : pvt S'.V = nV S.p (pvt S.V) r
def sp_State__apply_outcome (T : Env K mg) : Sp := fun vs H Q E => ∃ (a c v h o : Addr) (S : SS) (d : Bool) (x t : Int), vs = [.ref a, .int x, .int t] ∧ StAt T H a c v h o S ∧ Good S.p S.V ∧ 0 ≤ t ∧ S.n ≤ 3000 ∧ S.V.length ≤ 3000 ∧ S.O.length ≤ 900 ∧
  ∀ b H' S', Post T H H' a c v h o S S' (.dec d x t) b → Q (.bl b) H'
theorem ok_State__apply_outcome (T : Env K mg) : FnOk P w K mg base (L2.CX P w) 3 T.a_State__apply_outcome T.d_State__apply_outcome ["self", "txn", "time"] (sp_State__apply_outcome T) := by
  refine T.F_State__apply_outcome.okX sc_State__apply_outcome (fun vs H Q E h => by obtain ⟨_, _, _, _, _, _, _, _, _, rfl, _⟩ := h; rfl) (fun cdv A outer s H vs Q E hr h => ?_)
  obtain ⟨a, c, v, h, o, S, d, x, t, rfl, hS, hG, ht0, hn, hVl, hOl, h1⟩ := h
  have hu64 := hu64_of hr
  have G_Cells_put := ok_Cells_put (P := P) (w := w) (base := base) T
  refine ⟨_, (pss_cons (ps_if (pt_cmp (pc_din (hu_of hr) (pv 1) (pe_fld (pv 0) rfl)) rfl) (pss_one (ps_ret pe_bl)) pss_nil)
      (pss_cons (ps_if (pt_cmpR op_gt (pv 2) pe_int (nomark _)) (pss_cons (ps_if (PW.pt (pw_or (pt_cmp (pc_dnotin (hu_of hr) (pv 1) (pe_fld (pv 0) rfl)) rfl) (pw_or1 (pt_cmpR op_gt (pe_ix ix_tup (pe_dget (hu_of hr) (pe_fld (pv 0) rfl) (pv 1) (fun _ _ => rfl)) pe_int (fun _ _ => rfl)) (pv 2) (nomark _))))) (pss_one (ps_ret pe_bl)) pss_nil)
      (pss_cons (ps_expr (pe_meth (pe_fld (pv 0) rfl) T.k_Cells.cl T.m_Cells_put G_Cells_put (hr.mono (by decide)) T.b_Cells_put .nil (passes_call (takes_of rfl rfl rfl rfl) (fun _ _ _ _ x => x)) (pa_cons (pv 2) (pa_cons (pe_ix ix_tup (pe_dget (hu_of hr) (pe_fld (pv 0) rfl) (pv 1) (fun _ _ => rfl)) pe_int (fun _ _ => rfl)) pa_nil))))
      (pss_one (ps_fld (pv 0) (pe_callB (call_max2 rfl) (by rfl) T.z_max (by decide +kernel) (pa_cons (pe_fld (pv 0) rfl) (pa_cons (pv 2) pa_nil))) rfl)))) pss_nil)
      (pss_cons (ps_dput (hu_of hr) (pe_fld (pv 0) rfl) (pv 1) (pv 2) rfl)
      (pss_cons (ps_expr (pe_dpop2 (pe_fld (pv 0) rfl) (pv 1) pe_non ⟨rfl, rfl, rfl, rfl⟩))
      (pss_one (ps_ret pe_bl)))))), ?_⟩
  obtain ⟨dx, ha⟩ := id hS.ob
  have hstep : step S.p (.dec d x t) = if x ∈ gkeys S.O then S.p else if t > 0 then (match (gget S.M x).map (·.2) with | none => S.p | some hd => if hd.t > t then S.p else ⟨if t > S.fl then t else S.fl, pst (gdrop S.M x), gkeys S.O ++ [x]⟩) else ⟨S.fl, pst (gdrop S.M x), gkeys S.O ++ [x]⟩ := by
    show (if x ∈ gkeys S.O then _ else if t > 0 then (match gget (pst S.M) x with | none => _ | some hd => if hd.t > t then _ else _) else _) = _
    rw [pst_get, show S.p.held = pst S.M from rfl, pst_drop]
    rfl
  have no : step S.p (.dec d x t) = S.p → Q (.bl false) H := fun e => h1 false H S ⟨hS, e.symm, hG, fun b u hb _ _ _ _ _ => hb, fun e he => .inl ⟨e, he, rfl⟩, fun e he => ⟨e, he, rfl⟩, by omega, by omega, by omega, by omega, (okR_no e).symm, (if_neg (by rw [okR_no e]; decide)).symm, (if_neg (by rw [okR_no e]; decide)).symm⟩
  refine ⟨_, rfl, _, rfl, a, _, _, _, _, rfl, ha, T.k_State.cl, T.n_State__outcomes, stf_outs _ _ _ _, o, _, rfl, dgetI hS.ou x, _, rfl, ?_⟩
  rw [some_map, gget_is]
  refine iteD (fun c1 => no (by rw [hstep, if_pos c1])) (fun c1 => ?_)
  have c1' : x ∉ gkeys S.O := c1
  refine ⟨_, rfl, _, _, rfl, rfl, _, rfl, ?_⟩
  apply via2p (fun σ HX => σ = [some (.ref a), some (.int x), some (.int t)] ∧ ∃ S1 : SS, StAt T HX a c v h o S1 ∧ S1.M = S.M ∧ S1.O = S.O ∧ step S.p (.dec d x t) = ⟨S1.fl, pst (gdrop S.M x), gkeys S.O ++ [x]⟩ ∧ Good ⟨S1.fl, pst (gdrop S.M x), gkeys S.O ++ [x]⟩ S1.V ∧ Ks H HX a v h o S.V ∧ (∀ e ∈ S1.V, (∃ e0 ∈ S.V, e.2.1 = e0.2.1) ∨ H e.2.1 = none) ∧ (∀ e0 ∈ S.V, ∃ e ∈ S1.V, e.2.1 = e0.2.1) ∧ S1.n ≤ S.n + 30 ∧ S1.V.length ≤ S.V.length + 30 ∧ pvt S1.V = vd S.p (pvt S.V) x t)
  · intro fin
    refine iteD (fun c2 => ?_) (fun c2 => ?_)
    · have c2 : t > 0 := c2
      refine ⟨_, rfl, _, rfl, a, _, _, _, _, rfl, ha, T.k_State.cl, T.n_State__held, stf_held _ _ _ _, h, _, rfl, dgetI hS.he.at_ x, _, rfl, ?_⟩
      cases q : gget S.M x with
      | none => exact ifT rfl (no (by rw [hstep, if_neg c1', if_pos c2, q]; rfl))
      | some e =>
        have hem := gget_some q
        obtain ⟨r2, w2, as2, hA2, hR2, hW2⟩ := (hS.he.each _ hem).ex
        have hA2 : H e.1 = some (.tup [.int e.2.t, .int e.2.lead, .ref r2, .ref w2]) := hA2
        have dg : DGet H h (.int x) (some (hg e)) := by have := dgetI hS.he.at_ x; rw [q] at this; exact this
        refine ifF rfl ⟨_, rfl, a, _, _, _, _, rfl, ha, T.k_State.cl, T.n_State__held, stf_held _ _ _ _, _, rfl, h, hg e, rfl, dg, e.1, _, _, .int e.2.t, rfl, rfl, SqT.of hA2, atI_nat (j := 0) rfl, _, rfl, _, _, rfl, rfl, _, rfl, iteD (fun c3 => no ?_) (fun c3 => ?_)⟩
        · rw [hstep, if_neg c1', if_pos c2, q]
          exact if_pos c3
        have hpm : (x, e.2) ∈ S.p.held := List.mem_map.mpr ⟨(x, e), hem, rfl⟩
        obtain ⟨gd1, gd2⟩ := hG.hd _ hpm
        obtain ⟨dxc, hc⟩ := hS.ce.ob
        refine ⟨_, rfl, a, _, _, _, _, rfl, ha, T.k_State.cl, T.n_State_cells, stf_cells _ _ _ _, c, _, _, rfl, hc, cef_no _ (by decide +kernel), _, rfl, _, rfl, a, _, _, _, _, rfl, ha, T.k_State.cl, T.n_State__held, stf_held _ _ _ _, _, rfl, h, hg e, rfl, dg, e.1, _, _, .ref w2, rfl, rfl, SqT.of hA2, atI_nat (j := 3) rfl, ?_⟩
        have c3 : ¬ e.2.t > t := c3
        refine ⟨c, v, S.V, S.n, t, w2, as2, e.2.ws, rfl, hS.ce, hW2, by omega, fun e' he' => by have := gd2 e'.1 (List.mem_map.mpr ⟨e', he', rfl⟩); have h9 : lastT S.V e'.1 < e.2.t := this; omega, (hS.bd _ hem).2, by omega, by omega, fun H1 V1 hC1 hl1 hK1 hnew hlen hold hpv => ?_⟩
        have bd2 := (hS.bd _ hem).2
        have bd2 : e.2.ws.length ≤ 30 := bd2
        have av : a ≠ v := fun w => by
          have := hS.ce.at_
          rw [← w, ha] at this
          cases this
        have notl : ∀ {b : Addr} {u : HO}, H b = some u → (∀ xs, u ≠ .lst xs) → ∀ e0 ∈ S.V, b ≠ e0.2.1 := fun hb hu e0 he0 w => by
          obtain ⟨xs, z, y, k1, k2, k3⟩ := hS.ce.each e0 he0
          rw [w, k2] at hb
          exact hu _ (Option.some.inj hb).symm
        have ha1 := hK1 a _ ha av (notl ha fun xs w => by cases w)
        have hh1 := hK1 h _ hS.he.at_ hS.hv (notl hS.he.at_ fun xs w => by cases w)
        have ho1 := hK1 o _ hS.ou hS.ov (notl hS.ou fun xs w => by cases w)
        refine ⟨_, rfl, a, _, _, _, _, rfl, ha1, T.k_State.cl, T.n_State__floor, stf_floor _ _ _ _, _, rfl, _, _, rfl, _, rfl, a, _, _, _, rfl, ha1, T.k_State.cl, T.n_State__floor, (by rw [stf_eq]; show 4 < 1000; decide), ?_⟩
        rw [stf_put]
        have fr : ∀ b u, H1 b = some u → b ≠ a → upd H1 a (.ins T.a_State dx (stf c h o (if t > S.fl then t else S.fl))) b = some u := fun b u hb hne => by rw [upd_ne hne]; exact hb
        have tp1 := hK1.tp hS.ce
        have tp2 : Tp H1 (upd H1 a (.ins T.a_State dx (stf c h o (if t > S.fl then t else S.fl)))) := fun b xs hb => fr _ _ hb fun w => by
          rw [w, ha1] at hb
          cases hb
        have ha0 : h ≠ a := fun w => by
          rw [w, ha1] at hh1
          cases hh1
        have oa0 : o ≠ a := fun w => by
          rw [w, ha1] at ho1
          cases ho1
        have hgd := hG.dec hpm hl1 (gkeys S.O ++ [x])
        rw [show S.p.held = pst S.M from rfl, pst_drop] at hgd
        refine fin _ _ ⟨rfl, ⟨if t > S.fl then t else S.fl, S.M, S.O, V1, S.n + e.2.ws.length⟩, ⟨⟨dx, upd_same⟩, ⟨fr _ _ hh1 ha0, hS.he.nd, fun e' he' => (hS.he.each e' he').same (tp1.trans tp2)⟩, fr _ _ ho1 oa0, hC1.to fun b u hb hk => fr _ _ hb ?_, hS.ho, hS.hv, hS.ov, hS.ca, hS.bd⟩, rfl, rfl, ?_, hgd, fun b u hb h5 h6 h7 h8 h9 => fr _ _ (hK1 b u hb h8 h9) h5, hnew, hold, by show S.n + e.2.ws.length ≤ _; omega, by show V1.length ≤ _; omega, ?_⟩
        · rcases hk with w | w | ⟨xs, w⟩ | ⟨xs, w⟩
          · rw [w]; exact hS.ca
          · rw [w]; exact Ne.symm av
          · intro q
            rw [q, ha1, w] at hb
            cases hb
          · intro q
            rw [q, ha1, w] at hb
            cases hb
        · rw [hstep, if_neg c1', if_pos c2, q]
          exact if_neg c3
        · show pvt V1 = _
          rw [hpv]
          unfold vd
          rw [if_pos c2, show gget S.p.held x = some e.2 by rw [show S.p.held = pst S.M from rfl, pst_get, q]; rfl]
    · have c2 : ¬ t > 0 := c2
      refine fin _ _ ⟨rfl, S, hS, rfl, rfl, by rw [hstep, if_neg c1', if_neg c2], ?_, fun b u hb _ _ _ _ _ => hb, fun e he => .inl ⟨e, he, rfl⟩, fun e he => ⟨e, he, rfl⟩, by omega, by omega, (if_neg c2).symm⟩
      have := hG.drop x (gkeys S.O ++ [x])
      rw [show S.p.held = pst S.M from rfl, pst_drop] at this
      exact this
  rintro σ HX ⟨rfl, S1, hS1, eM, eO, est, hG1, hK, hnew, hold, hn1, hv1, hpv⟩
  obtain ⟨dx1, ha1⟩ := id hS1.ob
  have ho1 := hS1.ou
  rw [eO] at ho1
  have hh1 := hS1.he.at_
  rw [eM] at hh1
  have oh : o ≠ h := Ne.symm hS.ho
  have oa : o ≠ a := fun w => by
    rw [w, ha1] at ho1
    cases ho1
  have ha' : h ≠ a := fun w => by
    rw [w, ha1] at hh1
    cases hh1
  refine ⟨_, rfl, _, rfl, a, _, _, _, _, rfl, ha1, T.k_State.cl, T.n_State__outcomes, stf_outs _ _ _ _, _, rfl, o, _, rfl, dputI ho1 (by omega) x t, ?_⟩
  have ha2 : upd HX o (.dK (toD Sum.inl V.int (gput S.O x t))) a = some (.ins T.a_State dx1 (stf c h o S1.fl)) := by rw [upd_ne (Ne.symm oa)]; exact ha1
  have hh2 : upd HX o (.dK (toD Sum.inl V.int (gput S.O x t))) h = some (.dK (toD Sum.inl hg S.M)) := by rw [upd_ne (Ne.symm oh)]; exact hh1
  have fin : ∀ HZ, HZ h = some (.dK (toD Sum.inl hg (gdrop S.M x))) → (∀ b u, upd HX o (.dK (toD Sum.inl V.int (gput S.O x t))) b = some u → b ≠ h → HZ b = some u) → Q (.bl true) HZ := by
    intro HZ hhz hz
    have fr : ∀ b u, HX b = some u → b ≠ o → b ≠ h → HZ b = some u := fun b u hb h5 h6 => hz _ _ (by rw [upd_ne h5]; exact hb) h6
    have tp : Tp HX HZ := fun b xs hb => fr _ _ hb (fun w => by rw [w, ho1] at hb; cases hb) fun w => by rw [w, hh1] at hb; cases hb
    have cdk : ∀ {b : Addr} {u : HO}, HX b = some u → (∀ m, u ≠ .dK m) → b ≠ o ∧ b ≠ h := fun hb hu => ⟨fun w => by rw [w, ho1] at hb; exact hu _ (Option.some.inj hb).symm, fun w => by rw [w, hh1] at hb; exact hu _ (Option.some.inj hb).symm⟩
    obtain ⟨dc, hc⟩ := hS1.ce.ob
    have c2 := cdk hc (fun m w => by cases w)
    have keyO := gput_new (v := t) c1'
    have hok : okR S.p (.dec d x t) = true := okR_yes fun q => by
      rw [est] at q
      have := congrArg (fun p : PS => p.outs.length) q
      have : (gkeys S.O ++ [x]).length = (gkeys S.O).length := this
      rw [List.length_append] at this
      have : (gkeys S.O).length + 1 = (gkeys S.O).length := this
      omega
    refine h1 true HZ ⟨S1.fl, gdrop S.M x, gput S.O x t, S1.V, S1.n⟩ ⟨⟨⟨dx1, fr _ _ ha1 (Ne.symm oa) (Ne.symm ha')⟩, ⟨hhz, gnodup_drop hS.he.nd _, fun e he => ?_⟩, hz _ _ upd_same oh, hS1.ce.to fun b u hb hk => ?_, hS.ho, hS.hv, hS.ov, hS.ca, fun e he => hS.bd e (List.mem_filter.mp he).1⟩, ?_, ?_, fun b u hb h5 h6 h7 h8 h9 => fr _ _ (hK b u hb h5 h6 h7 h8 h9) h7 h6, hnew, hold, hn1, hv1, gput_len _ _ _, by have := gdrop_len S.M x; show (gdrop S.M x).length ≤ _; omega, hok.symm, keyO.trans (if_pos hok).symm, hpv.trans (if_pos hok).symm⟩
    · have := hS1.he.each
      rw [eM] at this
      exact (this e (List.mem_filter.mp he).1).same tp
    · rcases hk with w | w | ⟨xs, w⟩ | ⟨xs, w⟩
      · rw [w]
        rw [w] at hb
        exact fr _ _ hb c2.1 c2.2
      · rw [w] at hb ⊢
        exact fr _ _ hb (Ne.symm hS.ov) (Ne.symm hS.hv)
      · exact fr _ _ hb (cdk hb fun m q => by rw [w] at q; cases q).1 (cdk hb fun m q => by rw [w] at q; cases q).2
      · exact fr _ _ hb (cdk hb fun m q => by rw [w] at q; cases q).1 (cdk hb fun m q => by rw [w] at q; cases q).2
    · rw [est]
      show (⟨S1.fl, pst (gdrop S.M x), gkeys (gput S.O x t)⟩ : PS) = _
      rw [keyO]
      unfold gkeys
      rw [List.map_append]
      rfl
    · have e1 : (⟨S1.fl, gdrop S.M x, gput S.O x t, S1.V, S1.n⟩ : SS).p = ⟨S1.fl, pst (gdrop S.M x), gkeys S.O ++ [x]⟩ := by
        show (⟨S1.fl, pst (gdrop S.M x), gkeys (gput S.O x t)⟩ : PS) = _
        rw [keyO]
        unfold gkeys
        rw [List.map_append]
        rfl
      rw [e1]
      exact hG1
  refine ⟨_, rfl, a, _, _, _, _, rfl, ha2, T.k_State.cl, T.n_State__held, stf_held _ _ _ _, h, rfl, .inl ⟨_, .inl hh2⟩, _, rfl, toD Sum.inl hg S.M, Sum.inl x, hh2, rfl, fun v' hv' => ?_, fun hv' => ?_⟩
  · refine fin _ ?_ fun b u hb hne => by rw [upd_ne hne]; exact hb
    rw [upd_same, toD_drop inl_inj]
  · have hxn : x ∉ gkeys S.M := by
      rw [toD_get inl_inj] at hv'
      refine gget_none.mp ?_
      cases q : gget S.M x with
      | none => rfl
      | some e => rw [q] at hv'; cases hv'
    refine fin _ ?_ fun b u hb _ => hb
    rw [hh2]
    have : gdrop S.M x = S.M := List.filter_eq_self.mpr fun e he => by
      have : e.1 ≠ x := fun w => hxn (List.mem_map.mpr ⟨e, he, w⟩)
      simpa using this
    rw [this]

--PART /work/steering/wip/parts/sv8.lean
theorem RecAt.floor_inv {H : Hp} {a : Addr} {t : Int} (h : RecAt H a (.floor t)) : H a = some (.tup [.str "floor", .int t]) := by
  cases h
  assumption
theorem RecAt.dec_inv {H : Hp} {a : Addr} {d : Bool} {x t : Int} (h : RecAt H a (.dec d x t)) : H a = some (.tup [.str (if d = true then "decide" else "done"), .int x, .int t]) := by
  cases h
  assumption
def recOk : Rec → Prop
  | .floor _ => True
  | .prep _ _ _ rs ws => rs.length ≤ 30 ∧ ws.length ≤ 30
  | .dec _ _ t => 0 ≤ t
def sp_State_apply (T : Env K mg) : Sp := fun vs H Q E => ∃ (a c v h o ra : Addr) (S : SS) (r : Rec), vs = [.ref a, .ref ra] ∧ StAt T H a c v h o S ∧ RecAt H ra r ∧ recOk r ∧ Good S.p S.V ∧ S.n ≤ 3000 ∧ S.V.length ≤ 3000 ∧ S.O.length ≤ 900 ∧ S.M.length ≤ 59 ∧
  ∀ b H' S', Post T H H' a c v h o S S' r b → Q (.bl b) H'
theorem ok_State_apply (T : Env K mg) : FnOk P w K mg base (L2.CX P w) 4 T.a_State_apply T.d_State_apply ["self", "record"] (sp_State_apply T) := by
  refine T.F_State_apply.okX sc_State_apply (fun vs H Q E h => by obtain ⟨_, _, _, _, _, _, _, _, rfl, _⟩ := h; rfl) (fun cdv A outer s H vs Q E hr h => ?_)
  obtain ⟨a, c, v, h, o, ra, S, r, rfl, hS, hR, hok, hG, hn, hVl, hOl, hMl, h1⟩ := h
  have hu64 := hu64_of hr
  have G_State__apply_outcome := ok_State__apply_outcome (P := P) (w := w) (base := base) T
  have G_State__apply_floor := ok_State__apply_floor (P := P) (w := w) (base := base) T
  have G_State__apply_prepare := ok_State__apply_prepare (P := P) (w := w) (base := base) T
  refine ⟨_, (pss_cons (ps_if (pt_cmpR op_eq (pe_ix ix_tup (pv 1) pe_int (fun _ _ => rfl)) pe_str (nomark _)) (pss_one (ps_ret (pe_meth (pv 0) T.k_State.cl T.m_State__apply_floor G_State__apply_floor (hr.mono (by decide)) T.b_State__apply_floor .nil (passes_call (takes_of rfl rfl rfl rfl) (fun _ _ _ _ x => x)) (pa_cons (pe_ix ix_tup (pv 1) pe_int (fun _ _ => rfl)) pa_nil)))) pss_nil)
      (pss_cons (ps_if (pt_cmpR op_eq (pe_ix ix_tup (pv 1) pe_int (fun _ _ => rfl)) pe_str (nomark _)) (pss_one (ps_ret (pe_meth (pv 0) T.k_State.cl T.m_State__apply_prepare G_State__apply_prepare (hr.mono (by decide)) T.b_State__apply_prepare .nil (passes_call (takes_of rfl rfl rfl rfl) (fun _ _ _ _ x => x)) (pa_cons (pv 1) pa_nil)))) pss_nil)
      (pss_one (ps_ret (pe_meth (pv 0) T.k_State.cl T.m_State__apply_outcome G_State__apply_outcome (hr.mono (by decide)) T.b_State__apply_outcome .nil (passes_call (takes_of rfl rfl rfl rfl) (fun _ _ _ _ x => x)) (pa_cons (pe_ix ix_tup (pv 1) pe_int (fun _ _ => rfl)) (pa_cons (pe_ix ix_tup (pv 1) pe_int (fun _ _ => rfl)) pa_nil))))))), ?_⟩
  obtain ⟨dx, ha⟩ := id hS.ob
  have nom : ∀ {m : Str}, ¬ m = "_outcomes" → ¬ m = "_held" → ¬ m = "_floor" → ¬ m = "cells" → (stf c h o S.fl).lookup m = none := fun h1 h2 h3 h4 => stf_no _ _ _ _ h1 h2 h3 h4
  have F : ∀ {x y : Str}, ¬ x = y → decide (V.str x = V.str y) = false := fun hn => decide_eq_false fun q => hn (V.str.inj q)
  cases r with
  | floor t =>
    have hr0 := hR.floor_inv
    refine ⟨_, rfl, ra, _, _, _, rfl, rfl, SqT.of hr0, atI_nat (j := 0) rfl, rfl, _, rfl, ifT (decide_eq_true rfl) ?_⟩
    refine ⟨_, rfl, a, _, _, rfl, ha, nom (by decide +kernel) (by decide +kernel) (by decide +kernel) (by decide +kernel), _, rfl, ra, _, _, .int t, rfl, rfl, SqT.of hr0, atI_nat (j := 1) rfl, a, c, v, h, o, S, t, rfl, hS, fun b H' S' hst hp hb hV hn' hO hM hK => h1 b H' S' ⟨hst, hp, ?_, hK, fun e he => .inl ⟨e, by rw [← hV]; exact he, rfl⟩, fun e he => ⟨e, by rw [hV]; exact he, rfl⟩, by omega, by rw [hV]; omega, by rw [hO]; omega, by rw [hM]; omega, hb, hO, congrArg pvt hV⟩⟩
    rw [hp, hV]
    exact hG.floor t
  | prep x t ld rs ws =>
    obtain ⟨r2, w2, as, hr0, hr1, hw⟩ := hR.prep_inv
    refine ⟨_, rfl, ra, _, _, _, rfl, rfl, SqT.of hr0, atI_nat (j := 0) rfl, rfl, _, rfl, ifF (F (by decide +kernel)) ?_⟩
    refine ⟨_, rfl, ra, _, _, _, rfl, rfl, SqT.of hr0, atI_nat (j := 0) rfl, rfl, _, rfl, ifT (decide_eq_true rfl) ?_⟩
    refine ⟨_, rfl, a, _, _, rfl, ha, nom (by decide +kernel) (by decide +kernel) (by decide +kernel) (by decide +kernel), _, rfl, a, c, v, h, o, ra, S, x, t, ld, rs, ws, rfl, hS, hR, hok.1, hok.2, hMl, fun b H' S' hst hp hb hV hn' hO hM hK => h1 b H' S' ⟨hst, hp, ?_, hK, fun e he => .inl ⟨e, by rw [← hV]; exact he, rfl⟩, fun e he => ⟨e, by rw [hV]; exact he, rfl⟩, by omega, by rw [hV]; omega, by rw [hO]; omega, hM, hb, hO, congrArg pvt hV⟩⟩
    rw [hp, hV]
    exact hG.prep x t ld rs ws
  | dec d x t =>
    have hr0 := hR.dec_inv
    refine ⟨_, rfl, ra, _, _, _, rfl, rfl, SqT.of hr0, atI_nat (j := 0) rfl, rfl, _, rfl, ifF (F (by cases d <;> decide +kernel)) ?_⟩
    refine ⟨_, rfl, ra, _, _, _, rfl, rfl, SqT.of hr0, atI_nat (j := 0) rfl, rfl, _, rfl, ifF (F (by cases d <;> decide +kernel)) ?_⟩
    exact ⟨_, rfl, a, _, _, rfl, ha, nom (by decide +kernel) (by decide +kernel) (by decide +kernel) (by decide +kernel), _, rfl, ra, _, _, .int x, rfl, rfl, SqT.of hr0, atI_nat (j := 1) rfl, _, rfl, ra, _, _, .int t, rfl, rfl, SqT.of hr0, atI_nat (j := 2) rfl, a, c, v, h, o, S, d, x, t, rfl, hS, hG, hok, hn, hVl, hOl, h1⟩
def sp_Cells_init (T : Env K mg) : Sp := fun vs H Q E => ∃ (p dx : Addr), vs = [.ref p] ∧ H p = some (.ins T.a_Cells dx []) ∧ ∀ v H', H v = none → CeAt T H' p v [] 0 → (∀ b u, H b = some u → b ≠ p → H' b = some u) → Q .non H'
theorem ok_Cells_init (T : Env K mg) : FnOk P w K mg base (L2.CX P w) 1 T.a_Cells_init T.d_Cells_init ["self"] (sp_Cells_init T) := by
  refine T.F_Cells_init.okX sc_Cells_init (fun vs H Q E h => by obtain ⟨_, _, rfl, _⟩ := h; rfl) (fun cdv A outer s H vs Q E hr h => ?_)
  obtain ⟨p, dx, rfl, hp, h1⟩ := h
  refine ⟨_, (pss_one (ps_fld (pv 0) pe_dnewK rfl)), ?_⟩
  intro v nv
  have pv' : p ≠ v := ne_of_none hp nv
  have hp1 := same_new (o := .dK []) nv _ _ hp
  refine ⟨_, rfl, p, _, _, _, rfl, hp1, T.k_Cells.cl, T.n_Cells__versions, (by show 0 < 1000; decide), ?_⟩
  refine h1 v _ nv ⟨⟨dx, upd_same⟩, by rw [upd_ne (Ne.symm pv'), upd_same]; rfl, List.nodup_nil, List.nodup_nil, fun e he => by simp at he⟩ fun b u hb hne => ?_
  rw [upd_ne hne]
  exact same_new nv _ _ hb
def sp_State_init (T : Env K mg) : Sp := fun vs H Q E => ∃ (p dx : Addr), vs = [.ref p] ∧ H p = some (.ins T.a_State dx []) ∧ ∀ c v h o H', H c = none → H v = none → H h = none → H o = none → StAt T H' p c v h o ⟨0, [], [], [], 0⟩ → (∀ b u, H b = some u → b ≠ p → H' b = some u) → Q .non H'
theorem ok_State_init (T : Env K mg) : FnOk P w K mg base (L2.CX P w) 3 T.a_State_init T.d_State_init ["self"] (sp_State_init T) := by
  refine T.F_State_init.okX sc_State_init (fun vs H Q E h => by obtain ⟨_, _, rfl, _⟩ := h; rfl) (fun cdv A outer s H vs Q E hr h => ?_)
  obtain ⟨p, dx, rfl, hp, h1⟩ := h
  have hu64 := hu64_of hr
  have G_Cells_init := ok_Cells_init (P := P) (w := w) (base := base) T
  refine ⟨_, (pss_cons (ps_fld (pv 0) (pe_make0 T.M_Cells G_Cells_init (hr.mono (by decide)) rfl T.k_Cells.mgC T.b_Cells_init .nil passL) rfl)
      (pss_cons (ps_fld (pv 0) pe_int rfl)
      (pss_cons (ps_fld (pv 0) pe_dnewK rfl)
      (pss_one (ps_fld (pv 0) pe_dnewK rfl))))), ?_⟩
  intro x dx' nx ndx nex
  refine ⟨x, dx', rfl, upd_same, fun v H1 nv hC hk => ⟨rfl, ?_⟩⟩
  have hpx : p ≠ x := ne_of_none hp nx
  have vx : v ≠ x := fun w => by
    rw [w, upd_same] at nv
    cases nv
  have nv0 : H v = none := by
    rw [upd_ne vx] at nv
    by_cases w : v = dx'
    · rw [w, upd_same] at nv
      cases nv
    · rw [upd_ne w] at nv
      exact nv
  have keep1 : ∀ b u, H b = some u → H1 b = some u := fun b u hb => hk b u (by rw [upd_ne (ne_of_none hb nx), upd_ne (ne_of_none hb ndx)]; exact hb) (ne_of_none hb nx)
  have hp1 := keep1 _ _ hp
  have xp : x ≠ p := Ne.symm hpx
  have vp : v ≠ p := fun w => by
    rw [w, hp] at nv0
    cases nv0
  refine ⟨_, rfl, p, _, _, _, rfl, hp1, T.k_State.cl, T.n_State_cells, (by show 0 < 1000; decide), ?_⟩
  refine ⟨_, rfl, p, _, _, _, rfl, upd_same, T.k_State.cl, T.n_State__floor, (by show 1 < 1000; decide), ?_⟩
  intro h nh
  have hp0 : h ≠ p := fun w => by
    rw [w, upd_same] at nh
    cases nh
  have nh1 : H1 h = none := by
    rw [upd_ne hp0, upd_ne hp0] at nh
    exact nh
  refine ⟨_, rfl, p, _, _, _, rfl, (by rw [upd_ne (Ne.symm hp0), upd_same]), T.k_State.cl, T.n_State__held, (by show 2 < 1000; decide), ?_⟩
  intro o no
  have op : o ≠ p := fun w => by
    rw [w, upd_same] at no
    cases no
  have oh : o ≠ h := fun w => by
    rw [upd_ne op, w, upd_same] at no
    cases no
  have no1 : H1 o = none := by
    rw [upd_ne op, upd_ne oh, upd_ne op, upd_ne op] at no
    exact no
  refine ⟨_, rfl, p, _, _, _, rfl, (by rw [upd_ne (Ne.symm op), upd_same]), T.k_State.cl, T.n_State__outcomes, (by show 3 < 1000; decide), ?_⟩
  have nn : ∀ b, H1 b = none → H b = none := fun b hb => by
    cases q : H b with
    | none => rfl
    | some u => rw [keep1 _ _ q] at hb; cases hb
  have fr : ∀ (U : Hp) (F1 F2 F3 F4 : HO), U = upd (upd (upd (upd (upd (upd H1 p F1) p F2) h (.dK [])) p F3) o (.dK [])) p F4 → ∀ b u, H1 b = some u → b ≠ p → U b = some u := fun U F1 F2 F3 F4 e b u hb hne => by
    rw [e, upd_ne hne, upd_ne (ne_of_none hb no1), upd_ne hne, upd_ne (ne_of_none hb nh1), upd_ne hne, upd_ne hne]
    exact hb
  refine h1 x v h o _ nx nv0 (nn _ nh1) (nn _ no1) ⟨⟨_, upd_same⟩, ⟨?_, List.nodup_nil, fun e he => by simp at he⟩, ?_, hC.to fun b u hb hk2 => fr _ _ _ _ _ rfl _ _ hb ?_, Ne.symm oh, ?_, ?_, xp, fun e he => by simp at he⟩ fun b u hb hne => fr _ _ _ _ _ rfl _ _ (keep1 _ _ hb) hne
  · rw [upd_ne hp0, upd_ne (Ne.symm oh), upd_ne hp0, upd_same]
    rfl
  · rw [upd_ne op, upd_same]
    rfl
  · rcases hk2 with w | w | ⟨xs, w⟩ | ⟨xs, w⟩
    · rw [w]; exact xp
    · rw [w]; exact vp
    · intro q
      rw [q, hp1, w] at hb
      cases hb
    · intro q
      rw [q, hp1, w] at hb
      cases hb
  · intro w
    have := hC.at_
    rw [← w, nh1] at this
    cases this
  · intro w
    have := hC.at_
    rw [← w, no1] at this
    cases this

--PART /work/steering/wip/parts/states9.lean
theorem wk_len (ws : Mp) : (wk ws).length = ws.length := by unfold wk; rw [List.length_map]
theorem map_any (os ks : List Str) : (ks.map fun k => decide (k ∈ os)).any id = common ks os := by
  unfold common
  rw [List.any_map]
  rfl
def sp__law_meets (T : Env K mg) : Sp := fun vs H Q E => ∃ (r wA a : Addr) (as : List Addr) (rs : List Str) (ws : Mp) (hd : Hd), vs = [.ref r, .ref wA, .ref a] ∧ H r = some (.tup (rs.map V.str)) ∧ WrAt H wA as ws ∧ HdAt H a hd ∧ rs.length ≤ 30 ∧ ws.length ≤ 30 ∧ hd.rs.length ≤ 30 ∧ hd.ws.length ≤ 30 ∧ ∀ H', Same H H' → Q (.bl (meets rs ws hd)) H'
theorem ok__law_meets (T : Env K mg) : FnOk P w K mg base (L2.CX P w) 1 T.a__law_meets T.d__law_meets ["reads", "writes", "held"] (sp__law_meets T) := by
  refine T.F__law_meets.okX sc__law_meets (fun vs H Q E h => by obtain ⟨_, _, _, _, _, _, _, rfl, _⟩ := h; rfl) (fun cdv A outer s H vs Q E hr h => ?_)
  obtain ⟨r, wA, a, as, rs, ws, hd, rfl, hR, hW, hD, hrl, hwl, b1, b2, h1⟩ := h
  refine ⟨_, (pss_cons (ps_set (i := 3) sc__law_meets.nd rfl (Or.inr rfl) (pe_lc (own := [("pair", 5)]) (by rfl) sc__law_meets.nd (pi_tup (pe_ix ix_tup (pv 2) pe_int (fun _ _ => rfl))) (blkOk_by (own := [("pair", 5)]) (N := ["reads", "writes", "held", "theirs", "own", "pair", "key"]) (sc := defScope s__law_meets) (by decide +kernel)) (fun _ _ _ _ _ => (pg_name (i := 5) sc__law_meets.nd rfl (Or.inl rfl))) (fun _ _ _ _ _ => pts_nil) (fun _ _ _ _ _ => (pe_ix (ixK (K := K) (r := rIxT) rfl ix_tup) (pv 5) pe_int (fun _ _ => rfl)))))
      (pss_cons (ps_setLc (i := 4) (own := [("pair", 5)]) (by rfl) sc__law_meets.nd rfl rfl (sw_true rfl rfl rfl (by decide +kernel)) (pi_tup (pv 1)) (blkOk_by (own := [("pair", 5)]) (N := ["reads", "writes", "held", "theirs", "own", "pair", "key"]) (sc := defScope s__law_meets) (by decide +kernel)) (fun _ _ _ _ _ => (pg_name (i := 5) sc__law_meets.nd rfl (Or.inl rfl))) (fun _ _ _ _ _ => pts_nil) (fun _ _ _ _ _ => (pe_ix (ixK (K := K) (r := rIxT) rfl ix_tup) (pv 5) pe_int (fun _ _ => rfl))))
      (pss_cons (ps_if (pt_val (pe_callB (cr_any rfl) (by rfl) T.z_any (by decide +kernel) (pa_cons (pe_lc (own := [("key", 6)]) (by rfl) sc__law_meets.nd (pi_list (pe_op op_cat (pe_callTy call_list_of (by rfl) T.z_list (by decide +kernel) (pa_cons (pv 0) pa_nil)) (pv 4))) (blkOk_by (own := [("key", 6)]) (N := ["reads", "writes", "held", "theirs", "own", "pair", "key"]) (sc := defScope s__law_meets) (by decide +kernel)) (fun _ _ _ _ _ => (pg_name (i := 6) sc__law_meets.nd rfl (Or.inl rfl))) (fun _ _ _ _ _ => pts_nil) (fun _ _ _ _ _ => (pe_cmpR (opK (K := K) (r := (fun K => rIn K false)) rfl op_in_seq) (pv 6) (pv 3) rfl))) pa_nil))) (pss_one (ps_ret pe_bl)) pss_nil)
      (pss_one (ps_ret (pe_callB (cr_any rfl) (by rfl) T.z_any (by decide +kernel) (pa_cons (pe_lc (own := [("key", 6)]) (by rfl) sc__law_meets.nd (pi_list (pv 4)) (blkOk_by (own := [("key", 6)]) (N := ["reads", "writes", "held", "theirs", "own", "pair", "key"]) (sc := defScope s__law_meets) (by decide +kernel)) (fun _ _ _ _ _ => (pg_name (i := 6) sc__law_meets.nd rfl (Or.inl rfl))) (fun _ _ _ _ _ => pts_nil) (fun _ _ _ _ _ => (pe_cmpR (opK (K := K) (r := (fun K => rIn K false)) rfl op_in_seq) (pv 6) (pe_ix (ixK (K := K) (r := rIxT) rfl ix_tup) (pv 2) pe_int (fun _ _ => rfl)) rfl))) pa_nil))))))), ?_⟩
  obtain ⟨r2, w2, as2, hA2, hR2, hW2⟩ := hD.ex
  -- theirs
  refine ⟨_, rfl, a, _, _, _, rfl, rfl, SqT.of hA2, atI_nat (j := 3) rfl, w2, rfl, ⟨_, SqT.of hW2.at_⟩, fun D hD => ?_⟩
  refine lc_tup (K := K) (a := w2) (xs := as2.map V.ref) (fun i H' => Same H H' ∧ H' D = some (.lst ((wk (hd.ws.take i)).map V.str))) ⟨same_new hD, upd_same⟩ (fun i H' _ h => SqT.of (h.1 _ _ hW2.at_)) ?_ ?_
  · rintro i x H' hx ⟨sA, hp⟩
    obtain ⟨b, hb, rfl⟩ := mem_rf hx
    obtain ⟨e, he, hE⟩ := hW2.each i b hb
    have hi : i < hd.ws.length := (List.getElem?_eq_some_iff.mp he).1
    refine ⟨rfl, yes_if ⟨_, rfl, b, _, _, _, rfl, rfl, SqT.of (sA _ _ hE), atI_nat (j := 0) rfl, _, hp, szl (by rw [List.length_map, wk_len, List.length_take]; omega), same_mut sA hD, ?_⟩⟩
    rw [keys_take he, upd_same, List.map_append]
    rfl
  rintro H1 ⟨s1, hD1⟩
  rw [List.length_map, hW2.len, List.take_length] at hD1
  -- own
  have hW1 := hW.same (Same.tp s1)
  refine ⟨_, rfl, wA, rfl, ⟨_, SqT.of hW1.at_⟩, fun D2 hD2 => ?_⟩
  refine lc_tup (K := K) (a := wA) (xs := as.map V.ref) (fun i H' => Same H1 H' ∧ H' D2 = some (.lst ((wk (ws.take i)).map V.str))) ⟨same_new hD2, upd_same⟩ (fun i H' _ h => SqT.of (h.1 _ _ hW1.at_)) ?_ ?_
  · rintro i x H' hx ⟨sA, hp⟩
    obtain ⟨b, hb, rfl⟩ := mem_rf hx
    obtain ⟨e, he, hE⟩ := hW1.each i b hb
    have hi : i < ws.length := (List.getElem?_eq_some_iff.mp he).1
    refine ⟨rfl, yes_if ⟨_, rfl, b, _, _, _, rfl, rfl, SqT.of (sA _ _ hE), atI_nat (j := 0) rfl, _, hp, szl (by rw [List.length_map, wk_len, List.length_take]; omega), same_mut sA hD2, ?_⟩⟩
    rw [keys_take he, upd_same, List.map_append]
    rfl
  rintro H2 ⟨s2, hD2'⟩
  rw [List.length_map, hW.len, List.take_length] at hD2'
  have s12 := s1.trans s2
  have hT2 := s2 _ _ hD1
  refine ⟨_, rfl, r, _, rfl, .inr (SqT.of (s12 _ _ hR)), fun q nq => ?_⟩
  refine ⟨_, rfl, q, D2, rs.map V.str, (wk ws).map V.str, rfl, rfl, upd_same, same_new nq _ _ hD2', (by rw [List.length_map, List.length_map, wk_len]; exact szle (by omega)), fun t nt => ?_⟩
  rw [← List.map_append]
  have s3 := (s12.trans (same_new (o := .lst (rs.map V.str)) nq)).trans (same_new (o := .lst ((rs ++ wk ws).map V.str)) nt)
  have hT3 : upd (upd H2 q (.lst (rs.map V.str))) t (.lst ((rs ++ wk ws).map V.str)) t = some (.lst ((rs ++ wk ws).map V.str)) := upd_same
  have hD3 := same_new (o := .lst ((rs ++ wk ws).map V.str)) nt _ _ (same_new (o := .lst (rs.map V.str)) nq _ _ hD2')
  have hK3 := same_new (o := .lst ((rs ++ wk ws).map V.str)) nt _ _ (same_new (o := .lst (rs.map V.str)) nq _ _ hT2)
  generalize upd (upd H2 q (.lst (rs.map V.str))) t (.lst ((rs ++ wk ws).map V.str)) = H3 at s3 hT3 hD3 hK3
  refine ⟨t, rfl, ⟨_, SqL.of hT3⟩, fun F hF => ?_⟩
  refine lc_list (K := K) (a := t) (xs := (rs ++ wk ws).map V.str) (fun i H' => Same H3 H' ∧ H' F = some (.lst ((((rs ++ wk ws).take i).map fun k => decide (k ∈ wk hd.ws)).map V.bl))) ⟨same_new hF, upd_same⟩ (fun i H' _ h => SqL.of (h.1 _ _ hT3)) ?_ ?_
  · rintro i x H' hx ⟨sA, hp⟩
    obtain ⟨k, hk, rfl⟩ := mem_str hx
    refine ⟨rfl, yes_if ⟨_, rfl, _, rfl, D, (wk hd.ws).map V.str, rfl, .inl (SqL.of (sA _ _ hK3)), rfl, flat_strs _, _, hp, szl (by rw [List.length_map, List.length_map, List.length_take, List.length_append, wk_len]; omega), same_mut sA hF, ?_⟩⟩
    rw [take_succ hk, upd_same, List.map_append, List.map_append, inV_str]
    rfl
  rintro H4 ⟨s4, hF4⟩
  rw [List.length_map, List.take_length] at hF4
  have hm : meets rs ws hd = (common (rs ++ wk ws) (wk hd.ws) || common (wk ws) hd.rs) := by
    unfold meets
    rw [common_symm (wk hd.ws), common_symm hd.rs]
  have s34 := s3.trans s4
  refine ⟨F, _, rfl, SqL.of hF4, _, rfl, ?_⟩
  rw [map_any]
  cases hc : common (rs ++ wk ws) (wk hd.ws) with
  | true =>
    refine ifT rfl ?_
    have := h1 H4 s34
    rw [hm, hc] at this
    exact this
  | false =>
    refine ifF rfl ?_
    have hD4 := s4 _ _ hD3
    refine ⟨_, rfl, D2, rfl, ⟨_, SqL.of hD4⟩, fun G hG => ?_⟩
    refine lc_list (K := K) (a := D2) (xs := (wk ws).map V.str) (fun i H' => Same H4 H' ∧ H' G = some (.lst ((((wk ws).take i).map fun k => decide (k ∈ hd.rs)).map V.bl))) ⟨same_new hG, upd_same⟩ (fun i H' _ h => SqL.of (h.1 _ _ hD4)) ?_ ?_
    · rintro i x H' hx ⟨sA, hp⟩
      obtain ⟨k, hk, rfl⟩ := mem_str hx
      refine ⟨rfl, yes_if ⟨_, rfl, _, rfl, a, _, _, _, rfl, rfl, SqT.of (sA _ _ (s34 _ _ hA2)), atI_nat (j := 2) rfl, r2, (hd.rs).map V.str, rfl, .inr (SqT.of (sA _ _ (s34 _ _ hR2))), rfl, flat_strs _, _, hp, szl (by rw [List.length_map, List.length_map, List.length_take, wk_len]; omega), same_mut sA hG, ?_⟩⟩
      rw [take_succ hk, upd_same, List.map_append, List.map_append, inV_str]
      rfl
    rintro H5 ⟨s5, hG5⟩
    rw [List.length_map, List.take_length] at hG5
    refine ⟨G, _, rfl, SqL.of hG5, ?_⟩
    rw [map_any]
    have := h1 H5 (s34.trans s5)
    rw [hm, hc] at this
    exact this

--PART /work/steering/wip/parts/sv10.lean
theorem at_strs {ks : List Str} {z : Int} (h0 : 0 ≤ z) (h : z < ks.length) : ∃ k, atI (ks.map V.str) z = some (.str k) ∧ k ∈ ks := by
  have hj : z.toNat < ks.length := by omega
  refine ⟨ks[z.toNat], ?_, List.getElem_mem hj⟩
  exact at_of (j := z.toNat) (by omega) (by rw [List.getElem?_map, List.getElem?_eq_getElem hj]; rfl)
structure WrL (H : Hp) (p : Addr) (as : List Addr) (ws : Mp) : Prop where
  at_ : H p = some (.lst (as.map V.ref))
  len : as.length = ws.length
  each : ∀ (j : Nat) (a : Addr), as[j]? = some a → ∃ e, ws[j]? = some e ∧ H a = some (.tup [.str e.1, oV e.2])
theorem WrL.push {H H1 : Hp} {p q : Addr} {as : List Addr} {ws : Mp} (h : WrL H p as ws) (s : Same H H1) {k : Str} {v : Option Int} (hq : H1 q = some (.tup [.str k, oV v])) : WrL (upd H1 p (.lst (as.map V.ref ++ [.ref q]))) p (as ++ [q]) (ws ++ [(k, v)]) := by
  have hp1 := s _ _ h.at_
  have ne : ∀ {b : Addr} {xs : List V}, H1 b = some (.tup xs) → b ≠ p := fun hb w => by
    rw [w, hp1] at hb
    cases hb
  refine ⟨by rw [upd_same, List.map_append]; rfl, by rw [List.length_append, List.length_append, h.len]; rfl, fun j b hj => ?_⟩
  by_cases c : j < as.length
  · rw [List.getElem?_append_left c] at hj
    obtain ⟨e, g2, g3⟩ := h.each j b hj
    have g4 := s _ _ g3
    exact ⟨e, by rw [List.getElem?_append_left (by rw [← h.len]; exact c)]; exact g2, by rw [upd_ne (ne g4)]; exact g4⟩
  · have hj2 : j = as.length := by
      have := (List.getElem?_eq_some_iff.mp hj).1
      rw [List.length_append] at this
      have : j < as.length + 1 := this
      omega
    subst hj2
    rw [List.getElem?_append_right (Nat.le_refl _), Nat.sub_self] at hj
    have eb : q = b := Option.some.inj hj
    subst eb
    exact ⟨(k, v), by rw [h.len, List.getElem?_append_right (Nat.le_refl _), Nat.sub_self]; rfl, by rw [upd_ne (ne hq)]; exact hq⟩
def sp__law_writes (T : Env K mg) : Sp := fun vs H Q E => ∃ (nA kA : Addr) (ns : List Int) (ks : List Str), vs = [.ref nA, .ref kA] ∧ SqL K H nA (ns.map V.int) ∧ SqL K H kA (ks.map V.str) ∧ 4 ≤ ns.length ∧ ks.length = 4 ∧ (∀ n ∈ ns, 0 ≤ n ∧ n < 1000) ∧
  ∀ p as ws H', Same H H' → H p = none → WrAt H' p as ws → ws.length ≤ 4 → (∀ e ∈ ws, e.1 ∈ ks) → Q (.ref p) H'
theorem ok__law_writes (T : Env K mg) : FnOk P w K mg base (L2.CX P w) 1 T.a__law_writes T.d__law_writes ["numbers", "keys"] (sp__law_writes T) := by
  refine T.F__law_writes.okX sc__law_writes (fun vs H Q E h => by obtain ⟨_, _, _, _, rfl, _⟩ := h; rfl) (fun cdv A outer s H vs Q E hr h => ?_)
  obtain ⟨nA, kA, ns, ks, rfl, hN, hK, hn, hk, hb, h1⟩ := h
  refine ⟨_, (pss_cons (ps_set (i := 2) sc__law_writes.nd rfl (Or.inl rfl) (pe_lst pa_nil))
      (pss_cons (ps_for (passes_of rfl) rfl (pi_range1 rfl T.z_range (pa_cons pe_int pa_nil)) (pg_name (i := 3) sc__law_writes.nd rfl (Or.inl rfl)) (pss_cons (ps_set (i := 4) sc__law_writes.nd rfl (Or.inl rfl) (pe_callTy call_int1 (by rfl) T.z_int (by decide +kernel) (pa_cons (pe_ix ix_list (pv 0) (pv 3) (fun _ _ => rfl)) pa_nil)))
      (pss_one (ps_if (pt_cmpR op_lt (pe_op op_mod (pv 4) pe_int) pe_int (nomark _)) (pss_one (ps_expr (pe_bm PySem.F.plainAttrs_list PySem.F.slot_list_append PySem.F.type_list_append mt_append (pv 2) (pa_cons (pe_tup (pa_cons (pe_ix ix_list (pv 1) (pv 3) (fun _ _ => rfl)) (pa_cons (pe_ix ix_list (pe_lst (pa_cons pe_non (pa_cons (pe_op op_sub (pv 4) pe_int) (pa_cons (pe_op op_mul (pv 4) (pe_op op_pow pe_int pe_int)) (pa_cons pe_int pa_nil))))) (pe_op op_mod (pe_op op_fdiv (pv 4) pe_int) pe_int) (fun _ _ => rfl)) pa_nil))) pa_nil)))) pss_nil))))
      (pss_one (ps_ret (pe_callTy call_tuple_of (by rfl) T.z_tuple (by decide +kernel) (pa_cons (pv 2) pa_nil)))))), ?_⟩
  refine ⟨Nat.zero_le _, fun p np => ?_⟩
  have s1 := same_new (o := .lst []) np
  refine ⟨4, rfl, by decide, by decide, for_range (n := 4) (fun i σ H' => ∃ v3 v4, ∃ as ws, σ = [some (.ref nA), some (.ref kA), some (.ref p), v3, v4] ∧ Same H H' ∧ WrL H' p as ws ∧ ws.length ≤ i ∧ ∀ e ∈ ws, e.1 ∈ ks) ⟨none, none, [], [], rfl, s1, ⟨upd_same, rfl, fun j a h => by simp at h⟩, Nat.le_refl _, fun e he => by simp at he⟩ ?_ ?_⟩
  · rintro i σ H' hi ⟨v3, v4, as, ws, rfl, sA, hW, hl, hin⟩
    obtain ⟨x, hx⟩ : ∃ x, ns[i]? = some x := ⟨_, List.getElem?_eq_getElem (by omega)⟩
    have hxb := hb x (List.mem_of_getElem? hx)
    obtain ⟨k, hk1, hkm⟩ := at_strs (ks := ks) (z := 0 + (i : Int)) (by omega) (by omega)
    refine ⟨_, rfl, _, rfl, nA, _, _, .int x, rfl, rfl, sA.seq hN, at_of (j := i) (by omega) (by rw [List.getElem?_map, hx]; rfl), .inl ⟨_, rfl, ?_⟩⟩
    refine ⟨_, rfl, _, _, rfl, rfl, by show (0 : Int) < _; decide, _, _, rfl, rfl, _, rfl, iteD (fun cc => ?_) (fun cc => ?_)⟩
    · refine ⟨_, rfl, .inl ⟨rfl, _, SqL.of hW.at_⟩, ?_⟩
      refine ⟨_, rfl, _, rfl, kA, _, _, .str k, rfl, rfl, sA.seq hK, hk1, ?_⟩
      refine ⟨_, rfl, _, _, rfl, rfl, ?_⟩
      refine ⟨_, rfl, _, _, rfl, rfl, ⟨by decide, by decide, by decide⟩, _, _, rfl, rfl, .inl ⟨by omega, by omega⟩, (by show 4 ≤ sizeLine; decide), fun p2 np2 => ?_⟩
      obtain ⟨v, hv⟩ : ∃ v : Option Int, atI [V.non, V.int (x - 400), V.int (x * 10 ^ (20 : Int).toNat), V.int 0] (x / 5 % 4) = some (oV v) := by
        obtain ⟨j, hj, e⟩ : ∃ j : Nat, j < 4 ∧ x / 5 % 4 = (j : Int) := ⟨(x / 5 % 4).toNat, by omega, by omega⟩
        match j, hj with
        | 0, _ => exact ⟨none, at_of e rfl⟩
        | 1, _ => exact ⟨some _, at_of e rfl⟩
        | 2, _ => exact ⟨some _, at_of e rfl⟩
        | 3, _ => exact ⟨some _, at_of e rfl⟩
      have s2 := same_new (o := .lst [V.non, V.int (x - 400), V.int (x * 10 ^ (20 : Int).toNat), V.int 0]) np2
      refine ⟨_, rfl, _, _, rfl, rfl, ⟨by decide, by decide⟩, _, _, rfl, rfl, by show (0 : Int) < _; decide, p2, _, _, oV v, rfl, rfl, SqL.of upd_same, hv, (by show 2 ≤ sizeLine; decide), fun y ny => ?_⟩
      have s3 := s2.trans (same_new (o := .tup [.str k, oV v]) ny)
      have hp3 := s3 _ _ hW.at_
      refine ⟨_, _, _, rfl, rfl, hp3, szl (by rw [List.length_map, hW.len]; omega), ?_⟩
      exact ⟨_, _, as ++ [y], ws ++ [(k, v)], rfl, same_mut (sA.trans s3) np, hW.push s3 upd_same, by rw [List.length_append]; show ws.length + 1 ≤ _; omega, fun e he => by
        rcases List.mem_append.mp he with z | z
        · exact hin e z
        · have : e = (k, v) := by simpa using z
          rw [this]
          exact hkm⟩
    · exact ⟨_, _, as, ws, rfl, sA, hW, by omega, hin⟩
  · rintro σ H' ⟨v3, v4, as, ws, rfl, sA, hW, hl, hin⟩
    refine ⟨_, rfl, p, _, rfl, .inl ⟨SqL.of hW.at_, fun q nq => ?_⟩⟩
    have s2 := same_new (o := .tup (as.map V.ref)) nq
    exact h1 q as ws _ (sA.trans s2) (sA.free nq) ⟨upd_same, hW.len, fun j a h => by
      obtain ⟨e, g1, g2⟩ := hW.each j a h
      exact ⟨e, g1, s2 _ _ g2⟩⟩ hl hin

--PART /work/steering/wip/parts/sv11.lean
abbrev RM := VM
/-- rows of lists -/
structure RoAt (H : Hp) (d : Addr) (R : RM) (n : Nat) : Prop where
  at_ : H d = some (.dK (toD Sum.inr vg R))
  each : ∀ e ∈ R, ∃ as, VsAt H e.2.1 as e.2.2 ∧ e.2.2.length ≤ n
def sp__law_store (T : Env K mg) : Sp := fun vs H Q E => ∃ (d : Addr) (R : RM) (n : Nat) (t : Int) (wA : Addr) (as : List Addr) (ws : Mp), vs = [.ref d, .int t, .ref wA] ∧ RoAt H d R n ∧ WrAt H wA as ws ∧ ws.length ≤ 30 ∧ n ≤ 3000 ∧ R.length ≤ 3000 ∧
  ∀ H' R', RoAt H' d R' (n + ws.length) → R'.length ≤ R.length + ws.length → (∀ b u, H b = some u → b ≠ d → H' b = some u) → (∀ e ∈ R', (∃ e0 ∈ R, e.2.1 = e0.2.1) ∨ H e.2.1 = none) → pvt R' = pstore (pvt R) t ws → Q .non H'
theorem ok__law_store (T : Env K mg) : FnOk P w K mg base (L2.CX P w) 1 T.a__law_store T.d__law_store ["rows", "time", "writes"] (sp__law_store T) := by
  refine T.F__law_store.okX sc__law_store (fun vs H Q E h => by obtain ⟨_, _, _, _, _, _, _, rfl, _⟩ := h; rfl) (fun cdv A outer s H vs Q E hr h => ?_)
  obtain ⟨d, R, n, t, wA, as, ws, rfl, hR, hW, hwl, hn, hRl, h1⟩ := h
  refine ⟨_, (pss_one (ps_for (passes_of rfl) rfl (pi_tup (pv 2)) (pg_name (i := 3) sc__law_store.nd rfl (Or.inl rfl)) (pss_one (ps_dput (hu_of hr) (pv 0) (pe_ix ix_tup (pv 3) pe_int (fun _ _ => rfl)) (pe_op op_cat (pe_dget2 (hu_of hr) (pv 0) (pe_ix ix_tup (pv 3) pe_int (fun _ _ => rfl)) (pe_lst pa_nil) ⟨rfl, rfl, rfl, rfl⟩) (pe_lst (pa_cons (pe_tup (pa_cons (pv 1) (pa_cons (pe_ix ix_tup (pv 3) pe_int (fun _ _ => rfl)) pa_nil))) pa_nil))) rfl)))), ?_⟩
  refine ⟨_, rfl, wA, rfl, ⟨_, SqT.of hW.at_⟩, ?_⟩
  refine for_tup (K := K) (a := wA) (xs := as.map V.ref) (fun i σ H' => ∃ v3, ∃ Ri : RM, σ = [some (.ref d), some (.int t), some (.ref wA), v3] ∧ RoAt H' d Ri (n + i) ∧ Ri.length ≤ R.length + i ∧ (∀ b u, H b = some u → b ≠ d → H' b = some u) ∧ (∀ e ∈ Ri, (∃ e0 ∈ R, e.2.1 = e0.2.1) ∨ H e.2.1 = none) ∧ pvt Ri = pstore (pvt R) t (ws.take i)) ⟨none, R, rfl, hR, Nat.le_refl _, fun b u h _ => h, fun e he => .inl ⟨e, he, rfl⟩, rfl⟩ (fun i σ H' _ ⟨_, _, _, _, _, hk, _⟩ => SqT.of (hk _ _ hW.at_ fun w => by
    have := hW.at_
    rw [w, hR.at_] at this
    cases this)) ?_ ?_
  · rintro i x σ H' hx ⟨v3, Ri, rfl, hRi, hl, hk, hnw, hpv⟩
    obtain ⟨b, hb, rfl⟩ := mem_rf hx
    obtain ⟨e, he, hE⟩ := hW.each i b hb
    have hi : i < ws.length := (List.getElem?_eq_some_iff.mp he).1
    have hE' : H' b = some (.tup [.str e.1, oV e.2]) := hk _ _ hE fun w => by
      rw [w, hR.at_] at hE
      cases hE
    refine ⟨_, rfl, d, rfl, .inl ⟨_, .inl hRi.at_⟩, _, rfl, b, _, _, _, rfl, rfl, SqT.of hE', atI_nat (j := 0) rfl, Nat.zero_le _, fun l nl => ?_⟩
    have s1 := same_new (o := .lst []) nl
    have hl1 : upd H' l (.lst []) l = some (.lst []) := upd_same
    generalize upd H' l (.lst []) = H1 at s1 hl1
    refine ⟨_, dgetS (s1 _ _ hRi.at_) e.1, ?_⟩
    obtain ⟨q, ls, L, hq, hV, hxl, hpg⟩ : ∃ (q : Addr) (ls : List Addr) (L : List Ver), ((gget Ri e.1).map vg).getD (.ref l) = .ref q ∧ VsAt H1 q ls L ∧ L.length ≤ n + i ∧ (gget (pvt Ri) e.1).getD [] = L := by
      cases z : gget Ri e.1 with
      | none => exact ⟨l, [], [], rfl, ⟨hl1, rfl, fun j b hj => by simp at hj⟩, Nat.zero_le _, by rw [pvt_get, z]; rfl⟩
      | some q =>
        obtain ⟨as, g1, g2⟩ := hRi.each _ (gget_some z)
        exact ⟨q.1, as, q.2, rfl, g1.same s1, g2, by rw [pvt_get, z]; rfl⟩
    have hxs := hV.at_
    have hlen := hV.len
    rw [hq]
    refine ⟨_, rfl, _, rfl, b, _, _, _, rfl, rfl, SqT.of (s1 _ _ hE'), atI_nat (j := 1) rfl, (by show 2 ≤ sizeLine; decide), fun y ny => ⟨(by show 1 ≤ sizeLine; decide), fun z nz => ?_⟩⟩
    have s2 := s1.trans (same_new (o := .tup [.int t, oV e.2]) ny)
    have sy2 := same_new (o := .tup [.int t, oV e.2]) ny
    have s3 := s2.trans (same_new (o := .lst [.ref y]) nz)
    have sz := same_new (o := .lst [.ref y]) nz
    refine ⟨q, z, ls.map V.ref, [.ref y], rfl, rfl, sz _ _ (sy2 _ _ hxs), upd_same, szle (by rw [List.length_map]; show ls.length + 1 ≤ _; omega), fun p np => ?_⟩
    have s4 := s3.trans (same_new (o := .lst (ls.map V.ref ++ [.ref y])) np)
    have hp4 : upd (upd (upd H1 y (.tup [.int t, oV e.2])) z (.lst [.ref y])) p (.lst (ls.map V.ref ++ [.ref y])) p = some (.lst (ls.map V.ref ++ [.ref y])) := upd_same
    have np0 : H' p = none := s3.free np
    have hy4 := same_new (o := .lst (ls.map V.ref ++ [.ref y])) np _ _ (sz _ _ (upd_same (H := H1) (a := y) (o := .tup [.int t, oV e.2])))
    have s14 := (sy2.trans sz).trans (same_new (o := .lst (ls.map V.ref ++ [.ref y])) np)
    generalize upd (upd (upd H1 y (.tup [.int t, oV e.2])) z (.lst [.ref y])) p (.lst (ls.map V.ref ++ [.ref y])) = H4 at s4 hp4 hy4 s14
    refine ⟨_, rfl, _, rfl, b, _, _, _, rfl, rfl, SqT.of (s4 _ _ hE'), atI_nat (j := 0) rfl, d, _, rfl, dputS (g := vg) (s4 _ _ hRi.at_) (by omega) e.1 (p, L ++ [(t, e.2)]), ?_⟩
    have dne : ∀ {b : Addr} {xs : List V}, H4 b = some (.lst xs) → b ≠ d := fun hb w => by
      rw [w, s4 _ _ hRi.at_] at hb
      cases hb
    have ntd : ∀ xs, H4 d ≠ some (.tup xs) := fun xs w => by
      rw [s4 _ _ hRi.at_] at w
      cases w
    have fr : ∀ b u, H4 b = some u → b ≠ d → upd H4 d (.dK (toD Sum.inr vg (gput Ri e.1 (p, L ++ [(t, e.2)])))) b = some u := fun b u hb hne => by rw [upd_ne hne]; exact hb
    refine ⟨_, gput Ri e.1 (p, L ++ [(t, e.2)]), rfl, ⟨upd_same, fun e' he' => ?_⟩, by have := gput_len Ri e.1 (p, L ++ [(t, e.2)]); omega, fun b u hb hne => by rw [upd_ne hne]; exact s4 _ _ (hk b u hb hne), fun e' he' => ?_, ?_⟩
    · rcases mem_gput he' with w | ⟨w, _⟩
      · rw [w]
        refine ⟨ls ++ [y], (hV.app (fun b xs hb => s14 _ _ hb) hy4 hp4).frame fr (dne hp4) ntd, by rw [List.length_append]; show L.length + 1 ≤ _; omega⟩
      · obtain ⟨as, g1, g2⟩ := hRi.each e' w
        have g3 := g1.same s4
        exact ⟨as, g3.frame fr (dne g3.at_) ntd, by omega⟩
    · rcases mem_gput he' with w | ⟨w, _⟩
      · rw [w]
        refine .inr ?_
        show H p = none
        cases z2 : H p with
        | none => rfl
        | some u =>
          have : p ≠ d := dne hp4
          rw [hk p u z2 this] at np0
          cases np0
      · exact hnw e' w
    · rw [pvt_put, pstore_take he, ← hpv]
      unfold pput
      rw [hpg]
  · rintro σ H' ⟨v3, Ri, rfl, hRi, hl, hk, hnw, hpv⟩
    rw [List.length_map, hW.len] at hRi hl
    rw [List.length_map, hW.len, List.take_length] at hpv
    exact h1 H' Ri hRi hl hk hnw hpv

--PART /work/steering/wip/parts/states12.lean
def mt (M : HM) (rs : List Str) (ws : Mp) (k : Int) : Bool := match gget M k with
  | some e => meets rs ws e.2
  | none => false
theorem clash_eq (M : HM) (rs : List Str) (ws : Mp) (ys : List Int) : clash M rs ws ys = ys.filter (mt M rs ws) := rfl
theorem key_gget {M : HM} {y : Int} (h : y ∈ gkeys M) : ∃ e, gget M y = some e := by
  cases q : gget M y with
  | none => exact absurd h (gget_none.mp q)
  | some e => exact ⟨e, rfl⟩
theorem filter_take {α : Type} (f : α → Bool) {l : List α} {i : Nat} {x : α} (h : l[i]? = some x) : (l.take (i + 1)).filter f = (l.take i).filter f ++ (if f x = true then [x] else []) := by
  rw [take_succ h, List.filter_append]
  congr 1
  rw [List.filter_cons]
  rfl
theorem filter_len {α : Type} (f : α → Bool) (l : List α) (i : Nat) : ((l.take i).filter f).length ≤ i := by
  have := List.length_filter_le f (l.take i)
  rw [List.length_take] at this
  omega
def sp__law_clash (T : Env K mg) : Sp := fun vs H Q E => ∃ (pl dh dO dr : Addr) (fl : Int) (M : HM) (r wA : Addr) (as : List Addr) (rs : List Str) (ws : Mp), vs = [.ref pl, .ref r, .ref wA] ∧ H pl = some (.lst [.int fl, .ref dh, .ref dO, .ref dr]) ∧ HeldAt H dh M ∧ M.length ≤ 60 ∧ H r = some (.tup (rs.map V.str)) ∧ WrAt H wA as ws ∧ rs.length ≤ 30 ∧ ws.length ≤ 30 ∧ (∀ e ∈ M, e.2.2.rs.length ≤ 30 ∧ e.2.2.ws.length ≤ 30) ∧
  ∀ p ys H', Same H H' → H p = none → SrtI (gkeys M) ys → Li H' p (clash M rs ws ys) → Q (.ref p) H'
theorem ok__law_clash (T : Env K mg) : FnOk P w K mg base (L2.CX P w) 2 T.a__law_clash T.d__law_clash ["plain", "reads", "writes"] (sp__law_clash T) := by
  refine T.F__law_clash.okX sc__law_clash (fun vs H Q E h => by obtain ⟨_, _, _, _, _, _, _, _, _, _, _, rfl, _⟩ := h; rfl) (fun cdv A outer s H vs Q E hr h => ?_)
  obtain ⟨pl, dh, dO, dr, fl, M, r, wA, as, rs, ws, rfl, hP, hM, hMl, hR, hW, hrl, hwl, hbd, h1⟩ := h
  have hu64 := hu64_of hr
  have G__law_meets := ok__law_meets (P := P) (w := w) (base := base) T
  refine ⟨_, (pss_one (ps_ret (pe_lc (own := [("txn", 3)]) (by rfl) sc__law_clash.nd (pi_list (pe_callB (call_sortedDI rfl) (by rfl) T.z_sorted (by decide +kernel) (pa_cons (pe_ix ix_list (pv 0) pe_int (fun _ _ => rfl)) pa_nil))) (blkOk_by (own := [("txn", 3)]) (N := ["plain", "reads", "writes", "txn"]) (sc := defScope s__law_clash) (by decide +kernel)) (fun _ _ _ _ _ => (pg_name (i := 3) sc__law_clash.nd rfl (Or.inl rfl))) (fun _ _ _ _ _ => (pts_one (pt_val (pe_call G__law_meets (hr.mono (by decide)) rfl T.g__law_meets T.F__law_meets.kp T.b__law_meets .nil passL (pa_cons (pv 1) (pa_cons (pv 2) (pa_cons (pe_dget (hu_of hr) (pe_ix (ixK (K := K) (r := rIxL) rfl ix_list) (pv 0) pe_int (fun _ _ => rfl)) (pv 3) (fun _ _ => rfl)) pa_nil))))))) (fun _ _ _ _ _ => (pv 3))))), ?_⟩
  refine ⟨_, rfl, pl, _, _, _, rfl, rfl, SqL.of hP, atI_nat (j := 1) rfl, dh, _, gkeys M, rfl, .inl hM.at_, keysI M, (by unfold gkeys; rw [List.length_map]; omega), fun ys p hp hs np => ⟨p, rfl, ⟨_, SqL.of upd_same⟩, fun D hD => ?_⟩⟩
  have hsrt : SrtI (gkeys M) ys := ⟨hp, hs⟩
  have s1 := same_new (o := .lst (ys.map V.int)) np
  have hp1 : upd H p (.lst (ys.map V.int)) p = some (.lst (ys.map V.int)) := upd_same
  generalize upd H p (.lst (ys.map V.int)) = H1 at s1 hp1 hD
  have hyl := srt_len hsrt
  refine lc_list (K := K) (a := p) (xs := ys.map V.int) (fun i H' => Same H1 H' ∧ Li H' D ((ys.take i).filter (mt M rs ws))) ⟨same_new hD, upd_same⟩ (fun i H' _ h => SqL.of (h.1 _ _ hp1)) ?_ ?_
  · rintro i x H' hx ⟨sB, hL⟩
    obtain ⟨y, hy, rfl⟩ := mem_int hx
    have hi : i < ys.length := (List.getElem?_eq_some_iff.mp hy).1
    obtain ⟨e, he⟩ := key_gget (hsrt.1.mem_iff.mp (List.mem_of_getElem? hy))
    have hem := gget_some he
    have sA := s1.trans sB
    have hM' := hM.same sA
    refine ⟨rfl, _, rfl, _, rfl, _, rfl, pl, _, _, _, rfl, rfl, SqL.of (sA _ _ hP), atI_nat (j := 1) rfl, _, rfl, dh, hg e, rfl, (by have := dgetI hM'.at_ y; rw [he] at this; exact this), r, wA, e.1, as, rs, ws, e.2, rfl, sA _ _ hR, hW.same (Same.tp sA), hM'.each _ hem, hrl, hwl, (hbd _ hem).1, (hbd _ hem).2, fun H2 s2 => ⟨_, rfl, ?_⟩⟩
    have hf := filter_len (mt M rs ws) ys i
    have hmt : mt M rs ws y = meets rs ws e.2 := by unfold mt; rw [he]
    rw [filter_take _ hy, hmt]
    cases cc : meets rs ws e.2 with
    | true =>
      refine ifT rfl ⟨_, rfl, _, s2 _ _ hL, szl (by rw [List.length_map]; omega), same_mut (sB.trans s2) hD, ?_⟩
      exact li_push
    | false =>
      refine ifF rfl ⟨sB.trans s2, ?_⟩
      show Li H2 D (_ ++ [])
      rw [List.append_nil]
      exact s2 _ _ hL
  · rintro H' ⟨sB, hL⟩
    rw [List.length_map, List.take_length] at hL
    exact h1 D ys H' (s1.trans sB) (s1.free hD) hsrt hL
theorem meets_one (k : Str) (h : Hd) : meets [k] [] h = decide (k ∈ wk h.ws) := by
  unfold meets
  rw [common_symm (wk h.ws), show wk ([] : Mp) = [] from rfl, common_symm h.rs]
  show ((decide (k ∈ wk h.ws) || false) || false) = _
  rw [Bool.or_false, Bool.or_false]
def bt (M : HM) (k : Str) (t : Int) (x : Int) : Bool := match gget M x with
  | some e => decide (e.2.t ≤ t) && decide (k ∈ wk e.2.ws)
  | none => false
theorem blk2_eq (M : HM) (k : Str) (t : Int) (ys : List Int) : blk2 M k t ys = ys.filter (bt M k t) := by
  unfold blk2 clash
  rw [List.filter_filter]
  congr 1
  funext x
  unfold bt
  cases gget M x with
  | none => rfl
  | some e =>
    show (decide (e.2.t ≤ t) && meets [k] [] e.2) = _
    rw [meets_one]
--PART /work/steering/wip/parts/sv13.lean
structure PL where
  fl : Int
  M : HM
  O : List (Int × Int)
  R : RM
  n : Nat
def PL.p (P : PL) : PS := ⟨P.fl, pst P.M, gkeys P.O⟩
structure PlAt (H : Hp) (pl dh dO dr : Addr) (P : PL) : Prop where
  at_ : H pl = some (.lst [.int P.fl, .ref dh, .ref dO, .ref dr])
  he : HeldAt H dh P.M
  ou : H dO = some (.dK (toD Sum.inl V.int P.O))
  ro : RoAt H dr P.R P.n
  ho : dh ≠ dO
  hr : dh ≠ dr
  or : dO ≠ dr
  pr : ∀ e ∈ P.R, e.2.1 ≠ pl
  bd : ∀ e ∈ P.M, e.2.2.rs.length ≤ 30 ∧ e.2.2.ws.length ≤ 30
structure PPost (H H' : Hp) (pl dh dO dr : Addr) (P P' : PL) (r : Rec) (b : Bool) : Prop where
  st : PlAt H' pl dh dO dr P'
  pr : P'.p = step P.p r
  keep : ∀ b u, H b = some u → b ≠ pl → b ≠ dh → b ≠ dO → b ≠ dr → H' b = some u
  nw : ∀ e ∈ P'.R, (∃ e0 ∈ P.R, e.2.1 = e0.2.1) ∨ H e.2.1 = none
  ln : P'.n ≤ P.n + 30
  lr : P'.R.length ≤ P.R.length + 30
  lo : P'.O.length ≤ P.O.length + 1
  lm : P'.M.length ≤ P.M.length + 1
  ok : b = okR P.p r
  no : P'.O = nO P.p P.O r
  nv : pvt P'.R = nV P.p (pvt P.R) r
theorem PlAt.same {H H' : Hp} {pl dh dO dr : Addr} {Z : PL} (h : PlAt H pl dh dO dr Z) (s : Same H H') : PlAt H' pl dh dO dr Z := ⟨s _ _ h.at_, h.he.same s, s _ _ h.ou, ⟨s _ _ h.ro.at_, fun e he => by
  obtain ⟨xs, g1, g2⟩ := h.ro.each e he
  exact ⟨xs, g1.same s, g2⟩⟩, h.ho, h.hr, h.or, h.pr, h.bd⟩
theorem updk {H : Hp} {d : Addr} {u0 u1 : HO} (hd : H d = some u0) (k : ∀ xs, u0 ≠ .tup xs) : Tp H (upd H d u1) := fun b xs hb => by
  rw [upd_ne (fun w => by
    rw [w, hd] at hb
    exact k _ (Option.some.inj hb))]
  exact hb
theorem PlAt.setfl {H : Hp} {pl dh dO dr : Addr} {Z : PL} (h : PlAt H pl dh dO dr Z) (t : Int) : PlAt (upd H pl (.lst [.int t, .ref dh, .ref dO, .ref dr])) pl dh dO dr ⟨t, Z.M, Z.O, Z.R, Z.n⟩ := by
  have ne : ∀ {b : Addr} {kvs}, H b = some (.dK kvs) → b ≠ pl := fun hb w => by
    rw [w, h.at_] at hb
    cases hb
  refine ⟨upd_same, ⟨by rw [upd_ne (ne h.he.at_)]; exact h.he.at_, h.he.nd, fun e he => (h.he.each e he).same (updk h.at_ fun xs q => by cases q)⟩, by rw [upd_ne (ne h.ou)]; exact h.ou, ⟨by rw [upd_ne (ne h.ro.at_)]; exact h.ro.at_, fun e he => ?_⟩, h.ho, h.hr, h.or, h.pr, h.bd⟩
  obtain ⟨xs, g1, g2⟩ := h.ro.each e he
  exact ⟨xs, g1.frame (fun b u hb hn => by rw [upd_ne hn]; exact hb) (h.pr e he) (fun ys q => by
    rw [h.at_] at q
    cases q), g2⟩
theorem PlAt.sethe {H : Hp} {pl dh dO dr : Addr} {Z : PL} (h : PlAt H pl dh dO dr Z) (M' : HM) (nd : (gkeys M').Nodup) (hM : ∀ e ∈ M', HdAt H e.2.1 e.2.2) (bd : ∀ e ∈ M', e.2.2.rs.length ≤ 30 ∧ e.2.2.ws.length ≤ 30) : PlAt (upd H dh (.dK (toD Sum.inl hg M'))) pl dh dO dr ⟨Z.fl, M', Z.O, Z.R, Z.n⟩ := by
  have ne : ∀ {b : Addr} {xs}, H b = some (.lst xs) → b ≠ dh := fun hb w => by
    rw [w, h.he.at_] at hb
    cases hb
  refine ⟨by rw [upd_ne (ne h.at_)]; exact h.at_, ⟨upd_same, nd, fun e he => (hM e he).same (updk h.he.at_ fun xs q => by cases q)⟩, by rw [upd_ne (Ne.symm h.ho)]; exact h.ou, ⟨by rw [upd_ne (Ne.symm h.hr)]; exact h.ro.at_, fun e he => ?_⟩, h.ho, h.hr, h.or, h.pr, bd⟩
  obtain ⟨xs, g1, g2⟩ := h.ro.each e he
  exact ⟨xs, g1.frame (fun b u hb hn => by rw [upd_ne hn]; exact hb) (ne g1.at_) (fun ys q => by
    rw [h.he.at_] at q
    cases q), g2⟩
theorem PlAt.setou {H : Hp} {pl dh dO dr : Addr} {Z : PL} (h : PlAt H pl dh dO dr Z) (O' : List (Int × Int)) : PlAt (upd H dO (.dK (toD Sum.inl V.int O'))) pl dh dO dr ⟨Z.fl, Z.M, O', Z.R, Z.n⟩ := by
  have ne : ∀ {b : Addr} {xs}, H b = some (.lst xs) → b ≠ dO := fun hb w => by
    rw [w, h.ou] at hb
    cases hb
  refine ⟨by rw [upd_ne (ne h.at_)]; exact h.at_, ⟨by rw [upd_ne h.ho]; exact h.he.at_, h.he.nd, fun e he => (h.he.each e he).same (updk h.ou fun xs q => by cases q)⟩, upd_same, ⟨by rw [upd_ne (Ne.symm h.or)]; exact h.ro.at_, fun e he => ?_⟩, h.ho, h.hr, h.or, h.pr, h.bd⟩
  obtain ⟨xs, g1, g2⟩ := h.ro.each e he
  exact ⟨xs, g1.frame (fun b u hb hn => by rw [upd_ne hn]; exact hb) (ne g1.at_) (fun ys q => by
    rw [h.ou] at q
    cases q), g2⟩
def sp__law_deal (T : Env K mg) : Sp := fun vs H Q E => ∃ (pl dh dO dr ra : Addr) (Z : PL) (r : Rec), vs = [.ref pl, .ref ra] ∧ PlAt H pl dh dO dr Z ∧ RecAt H ra r ∧ recOk r ∧ Z.n ≤ 2900 ∧ Z.R.length ≤ 2900 ∧ Z.O.length ≤ 900 ∧ Z.M.length ≤ 59 ∧
  ∀ b H' P', PPost H H' pl dh dO dr Z P' r b → Q (.bl b) H'
theorem ok__law_deal (T : Env K mg) : FnOk P w K mg base (L2.CX P w) 3 T.a__law_deal T.d__law_deal ["plain", "record"] (sp__law_deal T) := by
  refine T.F__law_deal.okX sc__law_deal (fun vs H Q E h => by obtain ⟨_, _, _, _, _, _, _, rfl, _⟩ := h; rfl) (fun cdv A outer s H vs Q E hr h => ?_)
  obtain ⟨pl, dh, dO, dr, ra, Z, r, rfl, hP, hR, hok, hn, hRl, hOl, hMl, h1⟩ := h
  have hu64 := hu64_of hr
  have G__law_store := ok__law_store (P := P) (w := w) (base := base) T
  have G__law_clash := ok__law_clash (P := P) (w := w) (base := base) T
  refine ⟨_, (pss_cons (ps_if (pt_cmpR op_eq (pe_ix ix_tup (pv 1) pe_int (fun _ _ => rfl)) pe_str (nomark _)) (pss_cons (ps_if (pt_cmpR op_le (pe_ix ix_tup (pv 1) pe_int (fun _ _ => rfl)) (pe_ix ix_list (pv 0) pe_int (fun _ _ => rfl)) (nomark _)) (pss_one (ps_ret pe_bl)) pss_nil)
      (pss_cons (ps_asg (pe_ix ix_tup (pv 1) pe_int (fun _ _ => rfl)) (pg_sub (pv 0) pe_int set_list))
      (pss_one (ps_ret pe_bl)))) pss_nil)
      (pss_cons (ps_set (i := 2) sc__law_deal.nd rfl (Or.inl rfl) (pe_ix ix_tup (pv 1) pe_int (fun _ _ => rfl)))
      (pss_cons (ps_set (i := 3) sc__law_deal.nd rfl (Or.inl rfl) (pe_ix ix_tup (pv 1) pe_int (fun _ _ => rfl)))
      (pss_cons (ps_if (pt_cmp (pc_din (hu_of hr) (pv 2) (pe_ix ix_list (pv 0) pe_int (fun _ _ => rfl))) rfl) (pss_one (ps_ret pe_bl)) pss_nil)
      (pss_cons (ps_if (pt_cmpR op_eq (pe_ix ix_tup (pv 1) pe_int (fun _ _ => rfl)) pe_str (nomark _)) (pss_cons (ps_if (PW.pt (pw_or (pt_cmp (pc_din (hu_of hr) (pv 2) (pe_ix ix_list (pv 0) pe_int (fun _ _ => rfl))) rfl) (pw_or (pt_cmpR op_le (pv 3) (pe_ix ix_list (pv 0) pe_int (fun _ _ => rfl)) (nomark _)) (pw_or1 (pt_cmpR op_gt (pe_callB call_len (by rfl) T.z_len (by decide +kernel) (pa_cons (pe_call G__law_clash (hr.mono (by decide)) rfl T.g__law_clash T.F__law_clash.kp T.b__law_clash .nil passL (pa_cons (pv 0) (pa_cons (pe_ix ix_tup (pv 1) pe_int (fun _ _ => rfl)) (pa_cons (pe_ix ix_tup (pv 1) pe_int (fun _ _ => rfl)) pa_nil)))) pa_nil)) pe_int (nomark _)))))) (pss_one (ps_ret pe_bl)) pss_nil)
      (pss_cons (ps_dput (hu_of hr) (pe_ix ix_list (pv 0) pe_int (fun _ _ => rfl)) (pv 2) (pe_tup (pa_cons (pv 3) (pa_cons (pe_ix ix_tup (pv 1) pe_int (fun _ _ => rfl)) (pa_cons (pe_ix ix_tup (pv 1) pe_int (fun _ _ => rfl)) (pa_cons (pe_ix ix_tup (pv 1) pe_int (fun _ _ => rfl)) pa_nil))))) rfl)
      (pss_cons (ps_asg (pv 3) (pg_sub (pv 0) pe_int set_list))
      (pss_one (ps_ret pe_bl))))) pss_nil)
      (pss_cons (ps_if (pt_cmpR op_gt (pv 3) pe_int (nomark _)) (pss_cons (ps_if (PW.pt (pw_or (pt_cmp (pc_dnotin (hu_of hr) (pv 2) (pe_ix ix_list (pv 0) pe_int (fun _ _ => rfl))) rfl) (pw_or1 (pt_cmpR op_gt (pe_ix ix_tup (pe_dget (hu_of hr) (pe_ix ix_list (pv 0) pe_int (fun _ _ => rfl)) (pv 2) (fun _ _ => rfl)) pe_int (fun _ _ => rfl)) (pv 3) (nomark _))))) (pss_one (ps_ret pe_bl)) pss_nil)
      (pss_cons (ps_expr (pe_call G__law_store (hr.mono (by decide)) rfl T.g__law_store T.F__law_store.kp T.b__law_store .nil passL (pa_cons (pe_ix ix_list (pv 0) pe_int (fun _ _ => rfl)) (pa_cons (pv 3) (pa_cons (pe_ix ix_tup (pe_dget (hu_of hr) (pe_ix ix_list (pv 0) pe_int (fun _ _ => rfl)) (pv 2) (fun _ _ => rfl)) pe_int (fun _ _ => rfl)) pa_nil)))))
      (pss_one (ps_asg (pe_callB (call_max2 rfl) (by rfl) T.z_max (by decide +kernel) (pa_cons (pe_ix ix_list (pv 0) pe_int (fun _ _ => rfl)) (pa_cons (pv 3) pa_nil))) (pg_sub (pv 0) pe_int set_list))))) pss_nil)
      (pss_cons (ps_dput (hu_of hr) (pe_ix ix_list (pv 0) pe_int (fun _ _ => rfl)) (pv 2) (pv 3) rfl)
      (pss_cons (ps_expr (pe_dpop2 (pe_ix ix_list (pv 0) pe_int (fun _ _ => rfl)) (pv 2) pe_non ⟨rfl, rfl, rfl, rfl⟩))
      (pss_one (ps_ret pe_bl)))))))))), ?_⟩
  have F : ∀ {x y : Str}, ¬ x = y → decide (V.str x = V.str y) = false := fun hn => decide_eq_false fun q => hn (V.str.inj q)
  have no : ∀ H', Same H H' → step Z.p r = Z.p → Q (.bl false) H' := fun H' s' e => h1 false H' Z ⟨⟨s' _ _ hP.at_, hP.he.same s', s' _ _ hP.ou, ⟨s' _ _ hP.ro.at_, fun e he => by obtain ⟨xs, g1, g2⟩ := hP.ro.each e he; exact ⟨xs, g1.same s', g2⟩⟩, hP.ho, hP.hr, hP.or, hP.pr, hP.bd⟩, e.symm, fun b u hb _ _ _ _ => s' _ _ hb, fun e he => .inl ⟨e, he, rfl⟩, by omega, by omega, by omega, by omega, (okR_no e).symm, (by cases r with
    | floor t => rfl
    | prep x t ld rs ws => rfl
    | dec d x t => exact (if_neg (by rw [okR_no e]; decide)).symm), (by cases r with
    | floor t => rfl
    | prep x t ld rs ws => rfl
    | dec d x t => exact (if_neg (by rw [okR_no e]; decide)).symm)⟩
  cases r with
  | floor t =>
    have hr0 := hR.floor_inv
    refine ⟨_, rfl, ra, _, _, _, rfl, rfl, SqT.of hr0, atI_nat (j := 0) rfl, rfl, _, rfl, ifT (decide_eq_true rfl) ?_⟩
    refine ⟨_, rfl, ra, _, _, .int t, rfl, rfl, SqT.of hr0, atI_nat (j := 1) rfl, _, rfl, pl, _, _, .int Z.fl, rfl, rfl, SqL.of hP.at_, atI_nat (j := 0) rfl, _, _, rfl, rfl, _, rfl, iteD (fun c1 => no _ (Same.refl _) (if_pos c1)) (fun c1 => ?_)⟩
    refine ⟨_, rfl, ra, _, _, .int t, rfl, rfl, SqT.of hr0, atI_nat (j := 1) rfl, _, rfl, pl, _, _, 0, rfl, rfl, hP.at_, rfl, ?_⟩
    exact h1 true _ _ ⟨hP.setfl t, (if_neg c1).symm, fun b u hb n1 _ _ _ => by rw [upd_ne n1]; exact hb, fun e he => .inl ⟨e, he, rfl⟩, by show Z.n ≤ _; omega, by show Z.R.length ≤ _; omega, by show Z.O.length ≤ _; omega, by show Z.M.length ≤ _; omega, (okR_yes fun q => by
      have e : step Z.p (.floor t) = { Z.p with fl := t } := if_neg c1
      rw [e] at q
      have : t = Z.fl := congrArg PS.fl q
      have c1 : ¬ t ≤ Z.fl := c1
      omega).symm, rfl, rfl⟩
  | prep x t ld rs ws =>
    obtain ⟨r2, w2, as, hr0, hr1, hw⟩ := hR.prep_inv
    have hstep : step Z.p (.prep x t ld rs ws) = if x ∈ gkeys Z.M then Z.p else if x ∈ gkeys Z.O then Z.p else if t ≤ Z.fl then Z.p else if (Z.M.any fun e => meets rs ws e.2.2) = true then Z.p else ⟨t, pst Z.M ++ [(x, ⟨t, ld, rs, ws⟩)], gkeys Z.O⟩ := by
      show (if x ∈ gkeys (pst Z.M) then _ else if x ∈ gkeys Z.O then _ else if t ≤ Z.fl then _ else if ((pst Z.M).any fun (e : Int × Hd) => meets rs ws e.2) = true then _ else _) = _
      rw [pst_keys, pst_any]
      rfl
    refine ⟨_, rfl, ra, _, _, _, rfl, rfl, SqT.of hr0, atI_nat (j := 0) rfl, rfl, _, rfl, ifF (F (by decide +kernel)) ?_⟩
    refine ⟨_, rfl, ra, _, _, .int x, rfl, rfl, SqT.of hr0, atI_nat (j := 1) rfl, _, rfl, ra, _, _, .int t, rfl, rfl, SqT.of hr0, atI_nat (j := 2) rfl, ?_⟩
    refine ⟨_, rfl, _, rfl, pl, _, _, _, rfl, rfl, SqL.of hP.at_, atI_nat (j := 2) rfl, dO, _, rfl, dgetI hP.ou x, _, rfl, ?_⟩
    rw [some_map, gget_is]
    refine iteD (fun c2 => no _ (Same.refl _) (by rw [hstep, if_pos c2]; split <;> rfl)) (fun c2 => ?_)
    refine ⟨_, rfl, ra, _, _, _, rfl, rfl, SqT.of hr0, atI_nat (j := 0) rfl, rfl, _, rfl, ifT (decide_eq_true rfl) ?_⟩
    refine ⟨_, rfl, _, rfl, pl, _, _, _, rfl, rfl, SqL.of hP.at_, atI_nat (j := 1) rfl, dh, _, rfl, dgetI hP.he.at_ x, _, rfl, ?_⟩
    rw [some_map, gget_is]
    refine iteD (fun c1 => ifT rfl (no _ (Same.refl _) (by rw [hstep, if_pos c1]))) (fun c1 => ?_)
    refine ⟨_, rfl, _, rfl, pl, _, _, .int Z.fl, rfl, rfl, SqL.of hP.at_, atI_nat (j := 0) rfl, _, _, rfl, rfl, _, rfl, iteD (fun c3 => ifT rfl (no _ (Same.refl _) (by rw [hstep, if_neg c1, if_neg c2, if_pos c3]))) (fun c3 => ?_)⟩
    refine ⟨_, rfl, _, rfl, ra, _, _, _, rfl, rfl, SqT.of hr0, atI_nat (j := 4) rfl, _, rfl, ra, _, _, _, rfl, rfl, SqT.of hr0, atI_nat (j := 5) rfl, ?_⟩
    refine ⟨pl, dh, dO, dr, Z.fl, Z.M, r2, w2, as, rs, ws, rfl, hP.at_, hP.he, by omega, hr1, hw, hok.1, hok.2, hP.bd, fun p ys H1 s1 np hsrt hp => ⟨_, _, rfl, .inl ⟨_, SqL.of hp, rfl⟩, _, _, rfl, rfl, _, rfl, ?_⟩⟩
    have hany : (0 < (((clash Z.M rs ws ys).map V.int).length : Int)) ↔ (Z.M.any fun e => meets rs ws e.2.2) = true := by
      rw [List.length_map]
      have := clash_nil hP.he.nd (rs := rs) (ws := ws) hsrt
      constructor
      · intro q
        cases z : Z.M.any fun e => meets rs ws e.2.2 with
        | true => rfl
        | false =>
          rw [this.mpr z] at q
          exact absurd q (by decide)
      · intro q
        cases z : clash Z.M rs ws ys with
        | nil => rw [this.mp z] at q; cases q
        | cons a b => show (0 : Int) < ((b.length + 1 : Nat) : Int); omega
    refine iteD (fun c4 => no _ s1 (by rw [hstep, if_neg c1, if_neg c2, if_neg c3, if_pos (hany.mp c4)])) (fun c4 => ?_)
    have hr0' := s1 _ _ hr0
    have hP1 := hP.same s1
    refine ⟨_, rfl, _, rfl, ra, _, _, _, rfl, rfl, SqT.of hr0', atI_nat (j := 3) rfl, _, rfl, ra, _, _, _, rfl, rfl, SqT.of hr0', atI_nat (j := 4) rfl, _, rfl, ra, _, _, _, rfl, rfl, SqT.of hr0', atI_nat (j := 5) rfl, (by show 4 ≤ sizeLine; decide), fun y ny => ?_⟩
    have s2 := s1.trans (same_new (o := .tup [.int t, .int ld, .ref r2, .ref w2]) ny)
    have hy : upd H1 y (.tup [.int t, .int ld, .ref r2, .ref w2]) y = some (.tup [.int t, .int ld, .ref r2, .ref w2]) := upd_same
    generalize upd H1 y (.tup [.int t, .int ld, .ref r2, .ref w2]) = H2 at s2 hy
    have hP2 := hP.same s2
    refine ⟨_, rfl, pl, _, _, _, rfl, rfl, SqL.of hP2.at_, atI_nat (j := 1) rfl, _, rfl, dh, _, rfl, dputI (g := hg) hP2.he.at_ (by omega) x (y, ⟨t, ld, rs, ws⟩), ?_⟩
    have hP3 := hP2.sethe (gput Z.M x (y, ⟨t, ld, rs, ws⟩)) (gnodup_put hP.he.nd _ _) (fun e he => by
      rcases mem_gput he with w | ⟨w, _⟩
      · rw [w]
        exact ⟨r2, w2, as, hy, s2 _ _ hr1, hw.same (Same.tp s2)⟩
      · exact hP2.he.each e w) (fun e he => by
      rcases mem_gput he with w | ⟨w, _⟩
      · rw [w]
        exact hok
      · exact hP.bd e w)
    refine ⟨_, rfl, _, rfl, pl, _, _, 0, rfl, rfl, hP3.at_, rfl, ?_⟩
    have hP4 := hP3.setfl t
    refine h1 true _ _ ⟨hP4, ?_, fun b u hb n1 n2 _ _ => by rw [upd_ne n1, upd_ne n2]; exact s2 _ _ hb, fun e he => .inl ⟨e, he, rfl⟩, by show Z.n ≤ _; omega, by show Z.R.length ≤ _; omega, by show Z.O.length ≤ _; omega, gput_len _ _ _, ?_, rfl, rfl⟩
    rotate_left
    · refine (okR_yes fun q => ?_).symm
      rw [hstep, if_neg c1, if_neg c2, if_neg c3, if_neg (fun q => c4 (hany.mpr q))] at q
      have := congrArg (fun p : PS => p.held.length) q
      have : (pst Z.M ++ [(x, (⟨t, ld, rs, ws⟩ : Hd))]).length = (pst Z.M).length := this
      rw [List.length_append] at this
      have : (pst Z.M).length + 1 = (pst Z.M).length := this
      omega
    rw [hstep, if_neg c1, if_neg c2, if_neg c3, if_neg (fun q => c4 (hany.mpr q))]
    show (⟨t, pst (gput Z.M x (y, ⟨t, ld, rs, ws⟩)), gkeys Z.O⟩ : PS) = _
    rw [gput_new c1]
    unfold pst
    rw [List.map_append]
    rfl
  | dec d x t =>
    have hr0 := hR.dec_inv
    have ht0 : 0 ≤ t := hok
    have hstep : step Z.p (.dec d x t) = if x ∈ gkeys Z.O then Z.p else if t > 0 then (match (gget Z.M x).map (·.2) with | none => Z.p | some hd => if hd.t > t then Z.p else ⟨if t > Z.fl then t else Z.fl, pst (gdrop Z.M x), gkeys Z.O ++ [x]⟩) else ⟨Z.fl, pst (gdrop Z.M x), gkeys Z.O ++ [x]⟩ := by
      show (if x ∈ gkeys Z.O then _ else if t > 0 then (match gget (pst Z.M) x with | none => _ | some hd => if hd.t > t then _ else _) else _) = _
      rw [pst_get, show Z.p.held = pst Z.M from rfl, pst_drop]
      rfl
    refine ⟨_, rfl, ra, _, _, _, rfl, rfl, SqT.of hr0, atI_nat (j := 0) rfl, rfl, _, rfl, ifF (F (by cases d <;> decide +kernel)) ?_⟩
    refine ⟨_, rfl, ra, _, _, .int x, rfl, rfl, SqT.of hr0, atI_nat (j := 1) rfl, _, rfl, ra, _, _, .int t, rfl, rfl, SqT.of hr0, atI_nat (j := 2) rfl, ?_⟩
    refine ⟨_, rfl, _, rfl, pl, _, _, _, rfl, rfl, SqL.of hP.at_, atI_nat (j := 2) rfl, dO, _, rfl, dgetI hP.ou x, _, rfl, ?_⟩
    rw [some_map, gget_is]
    refine iteD (fun c2 => no _ (Same.refl _) (by rw [hstep, if_pos c2])) (fun c2 => ?_)
    have c2' : x ∉ gkeys Z.O := c2
    refine ⟨_, rfl, ra, _, _, _, rfl, rfl, SqT.of hr0, atI_nat (j := 0) rfl, rfl, _, rfl, ifF (F (by cases d <;> decide +kernel)) ?_⟩
    refine ⟨_, rfl, _, _, rfl, rfl, _, rfl, ?_⟩
    apply via2p (fun σ HX => σ = [some (.ref pl), some (.ref ra), some (.int x), some (.int t)] ∧ ∃ Z1 : PL, PlAt HX pl dh dO dr Z1 ∧ Z1.M = Z.M ∧ Z1.O = Z.O ∧ step Z.p (.dec d x t) = ⟨Z1.fl, pst (gdrop Z.M x), gkeys Z.O ++ [x]⟩ ∧ (∀ b u, H b = some u → b ≠ pl → b ≠ dh → b ≠ dO → b ≠ dr → HX b = some u) ∧ (∀ e ∈ Z1.R, (∃ e0 ∈ Z.R, e.2.1 = e0.2.1) ∨ H e.2.1 = none) ∧ Z1.n ≤ Z.n + 30 ∧ Z1.R.length ≤ Z.R.length + 30 ∧ pvt Z1.R = vd Z.p (pvt Z.R) x t)
    · intro fin
      refine iteD (fun c3 => ?_) (fun c3 => ?_)
      rotate_left
      · have c3 : ¬ t > 0 := c3
        exact fin _ _ ⟨rfl, Z, hP, rfl, rfl, by rw [hstep, if_neg c2', if_neg c3], fun b u hb _ _ _ _ => hb, fun e he => .inl ⟨e, he, rfl⟩, by omega, by omega, (if_neg c3).symm⟩
      · have c3 : t > 0 := c3
        refine ⟨_, rfl, _, rfl, pl, _, _, _, rfl, rfl, SqL.of hP.at_, atI_nat (j := 1) rfl, dh, _, rfl, dgetI hP.he.at_ x, _, rfl, ?_⟩
        cases q : gget Z.M x with
        | none => exact ifT rfl (ifT rfl (no _ (Same.refl _) (by rw [hstep, if_neg c2', if_pos c3, q]; rfl)))
        | some e =>
          have hem := gget_some q
          obtain ⟨r2, w2, as2, hA2, hR2, hW2⟩ := (hP.he.each _ hem).ex
          have hA2 : H e.1 = some (.tup [.int e.2.t, .int e.2.lead, .ref r2, .ref w2]) := hA2
          have dg : DGet H dh (.int x) (some (hg e)) := by have := dgetI hP.he.at_ x; rw [q] at this; exact this
          have bd2 := (hP.bd _ hem).2
          have bd2 : e.2.ws.length ≤ 30 := bd2
          refine ifF rfl ⟨_, rfl, pl, _, _, _, rfl, rfl, SqL.of hP.at_, atI_nat (j := 1) rfl, _, rfl, dh, hg e, rfl, dg, e.1, _, _, .int e.2.t, rfl, rfl, SqT.of hA2, atI_nat (j := 0) rfl, _, rfl, _, _, rfl, rfl, _, rfl, iteD (fun c4 => no _ (Same.refl _) ?_) (fun c4 => ?_)⟩
          · rw [hstep, if_neg c2', if_pos c3, q]
            exact if_pos c4
          refine ⟨_, rfl, pl, _, _, _, rfl, rfl, SqL.of hP.at_, atI_nat (j := 3) rfl, _, rfl, _, rfl, pl, _, _, _, rfl, rfl, SqL.of hP.at_, atI_nat (j := 1) rfl, _, rfl, dh, hg e, rfl, dg, e.1, _, _, .ref w2, rfl, rfl, SqT.of hA2, atI_nat (j := 3) rfl, ?_⟩
          refine ⟨dr, Z.R, Z.n, t, w2, as2, e.2.ws, rfl, hP.ro, hW2, bd2, by omega, by omega, fun H1 R1 hR1 hl1 hk1 hn1 hpv => ?_⟩
          have pdr : pl ≠ dr := fun w => by
            have := hP.at_
            rw [w, hP.ro.at_] at this
            cases this
          have tp1 : Tp H H1 := fun b xs hb => hk1 _ _ hb fun w => by
            rw [w, hP.ro.at_] at hb
            cases hb
          have hP1 : PlAt H1 pl dh dO dr ⟨Z.fl, Z.M, Z.O, R1, Z.n + e.2.ws.length⟩ := ⟨hk1 _ _ hP.at_ pdr, ⟨hk1 _ _ hP.he.at_ hP.hr, hP.he.nd, fun e' he' => (hP.he.each e' he').same tp1⟩, hk1 _ _ hP.ou hP.or, hR1, hP.ho, hP.hr, hP.or, (fun e' he' w => by
            rcases hn1 e' he' with ⟨e0, g1, g2⟩ | g1
            · exact hP.pr e0 g1 (g2.symm.trans w)
            · rw [w, hP.at_] at g1
              cases g1), hP.bd⟩
          refine ⟨_, rfl, pl, _, _, .int Z.fl, rfl, rfl, SqL.of hP1.at_, atI_nat (j := 0) rfl, _, rfl, _, _, rfl, _, rfl, pl, _, _, 0, rfl, rfl, hP1.at_, rfl, ?_⟩
          have hP2 := hP1.setfl (if t > Z.fl then t else Z.fl)
          refine fin _ _ ⟨rfl, _, hP2, rfl, rfl, ?_, fun b u hb n1 n2 n3 n4 => by rw [upd_ne n1]; exact hk1 _ _ hb n4, hn1, by show Z.n + _ ≤ _; omega, by show R1.length ≤ _; omega, ?_⟩
          · rw [hstep, if_neg c2', if_pos c3, q]
            exact if_neg c4
          · show pvt R1 = _
            rw [hpv]
            unfold vd
            rw [if_pos c3, show gget Z.p.held x = some e.2 by rw [show Z.p.held = pst Z.M from rfl, pst_get, q]; rfl]
    rintro σ HX ⟨rfl, Z1, hP1, eM, eO, est, hk, hnw, hn1, hr1, hpv⟩
    have hok : okR Z.p (.dec d x t) = true := okR_yes fun q => by
      rw [est] at q
      have := congrArg (fun p : PS => p.outs.length) q
      have : (gkeys Z.O ++ [x]).length = (gkeys Z.O).length := this
      rw [List.length_append] at this
      have : (gkeys Z.O).length + 1 = (gkeys Z.O).length := this
      omega
    have hO2 : gput Z1.O x t = nO Z.p Z.O (.dec d x t) := by
      rw [eO]
      exact (gput_new c2').trans (if_pos hok).symm
    have hV2 : pvt Z1.R = nV Z.p (pvt Z.R) (.dec d x t) := hpv.trans (if_pos hok).symm
    refine ⟨_, rfl, _, rfl, pl, _, _, _, rfl, rfl, SqL.of hP1.at_, atI_nat (j := 2) rfl, _, rfl, dO, _, rfl, dputI hP1.ou (by rw [eO]; omega) x t, ?_⟩
    have hP2 := hP1.setou (gput Z1.O x t)
    have kO : gkeys (gput Z1.O x t) = gkeys Z.O ++ [x] := by
      rw [eO, gput_new c2']
      unfold gkeys
      rw [List.map_append]
      rfl
    have lO : (gput Z1.O x t).length ≤ Z.O.length + 1 := by
      have := gput_len Z1.O x t
      rw [eO] at this ⊢
      exact this
    refine ⟨_, rfl, pl, _, _, _, rfl, rfl, SqL.of hP2.at_, atI_nat (j := 1) rfl, dh, rfl, .inl ⟨_, .inl hP2.he.at_⟩, _, rfl, toD Sum.inl hg Z1.M, Sum.inl x, hP2.he.at_, rfl, fun v' hv' => ?_, fun hv' => ?_⟩
    · rw [toD_drop inl_inj]
      have hP3 := hP2.sethe (gdrop Z1.M x) (gnodup_drop hP1.he.nd _) (fun e he => hP2.he.each e (List.mem_filter.mp he).1) (fun e he => hP1.bd e (List.mem_filter.mp he).1)
      refine h1 true _ _ ⟨hP3, ?_, fun b u hb n1 n2 n3 n4 => by rw [upd_ne n2, upd_ne n3]; exact hk _ _ hb n1 n2 n3 n4, hnw, hn1, hr1, lO, ?_, hok.symm, hO2, hV2⟩
      · rw [est]
        show (⟨Z1.fl, pst (gdrop Z1.M x), gkeys (gput Z1.O x t)⟩ : PS) = _
        rw [kO, eM]
      · have := gdrop_len Z1.M x
        show (gdrop Z1.M x).length ≤ _
        rw [eM] at this ⊢
        omega
    · have hxn : x ∉ gkeys Z1.M := by
        have hv' : valV (toD Sum.inl hg Z1.M) (Sum.inl x) = none := hv'
        rw [toD_get inl_inj] at hv'
        refine gget_none.mp ?_
        cases q : gget Z1.M x with
        | none => rfl
        | some e => rw [q] at hv'; cases hv'
      have hd : gdrop Z1.M x = Z1.M := List.filter_eq_self.mpr fun e he => by
        have : e.1 ≠ x := fun w => hxn (List.mem_map.mpr ⟨e, he, w⟩)
        simpa using this
      refine h1 true _ _ ⟨hP2, ?_, fun b u hb n1 n2 n3 n4 => by rw [upd_ne n3]; exact hk _ _ hb n1 n2 n3 n4, hnw, hn1, hr1, lO, ?_, hok.symm, hO2, hV2⟩
      · rw [est]
        show (⟨Z1.fl, pst Z1.M, gkeys (gput Z1.O x t)⟩ : PS) = _
        rw [kO, ← eM, hd]
      · show Z1.M.length ≤ _
        rw [eM]
        omega

--PART /work/steering/wip/parts/sv14.lean
/-- the record's keys are among these -/
def recIn (ks : List Str) : Rec → Prop
  | .prep _ _ _ rs ws => (∀ k ∈ rs, k ∈ ks) ∧ ∀ e ∈ ws, e.1 ∈ ks
  | _ => True
def sp__law_near (T : Env K mg) : Sp := fun vs H Q E => ∃ (nA kA : Addr) (ns : List Int) (ks : List Str) (fl sc : Int), vs = [.ref nA, .ref kA, .int fl, .int sc] ∧ H nA = some (.lst (ns.map V.int)) ∧ H kA = some (.lst (ks.map V.str)) ∧ 13 ≤ ns.length ∧ ks.length = 4 ∧ (∀ n ∈ ns, 0 ≤ n ∧ n < 1000) ∧
  ∀ p r H', Same H H' → H p = none → RecAt H' p r → recOk r → recIn ks r → Q (.ref p) H'
theorem ok__law_near (T : Env K mg) : FnOk P w K mg base (L2.CX P w) 2 T.a__law_near T.d__law_near ["numbers", "keys", "floor", "scale"] (sp__law_near T) := by
  refine T.F__law_near.okX sc__law_near (fun vs H Q E h => by obtain ⟨_, _, _, _, _, _, rfl, _⟩ := h; rfl) (fun cdv A outer s H vs Q E hr h => ?_)
  obtain ⟨nA, kA, ns, ks, fl, sc, rfl, hN, hK, hn, hk, hb, h1⟩ := h
  have hu64 := hu64_of hr
  have G__law_writes := ok__law_writes (P := P) (w := w) (base := base) T
  refine ⟨_, (pss_cons (ps_set (i := 4) sc__law_near.nd rfl (Or.inl rfl) (pe_op op_mul (pe_op op_add pe_int (pe_op op_mod (pe_callTy call_int1 (by rfl) T.z_int (by decide +kernel) (pa_cons (pe_ix ix_list (pv 0) pe_int (fun _ _ => rfl)) pa_nil)) pe_int)) (pv 3)))
      (pss_cons (ps_set (i := 5) sc__law_near.nd rfl (Or.inl rfl) (pe_callTy call_int1 (by rfl) T.z_int (by decide +kernel) (pa_cons (pe_ix ix_list (pv 0) pe_int (fun _ _ => rfl)) pa_nil)))
      (pss_cons (ps_set (i := 6) sc__law_near.nd rfl (Or.inl rfl) (pe_ix ix_list (pe_lst (pa_cons (pe_op op_add (pv 2) pe_int) (pa_cons (pe_op op_add (pe_op op_add (pv 2) pe_int) (pe_op op_mod (pv 5) pe_int)) (pa_cons (pv 2) (pa_cons (pe_op op_sub (pv 2) pe_int) (pa_cons (pe_op op_add pe_int (pe_op op_mod (pv 5) pe_int)) (pa_cons (pe_op op_add (pv 2) (pe_op op_pow pe_int pe_int)) pa_nil))))))) (pe_op op_mod (pe_callTy call_int1 (by rfl) T.z_int (by decide +kernel) (pa_cons (pe_ix ix_list (pv 0) pe_int (fun _ _ => rfl)) pa_nil)) pe_int) (fun _ _ => rfl)))
      (pss_cons (ps_set (i := 7) sc__law_near.nd rfl (Or.inl rfl) (pe_op op_mod (pe_callTy call_int1 (by rfl) T.z_int (by decide +kernel) (pa_cons (pe_ix ix_list (pv 0) pe_int (fun _ _ => rfl)) pa_nil)) pe_int))
      (pss_cons (ps_if (pt_cmpR op_eq (pv 7) pe_int (nomark _)) (pss_one (ps_ret (pe_tup (pa_cons pe_str (pa_cons (pe_callB (call_max2 rfl) (by rfl) T.z_max (by decide +kernel) (pa_cons pe_int (pa_cons (pv 6) pa_nil))) pa_nil))))) pss_nil)
      (pss_cons (ps_if (pt_cmpR op_lt (pv 7) pe_int (nomark _)) (pss_cons (ps_set (i := 8) sc__law_near.nd rfl (Or.inl rfl) (pe_callTy call_tuple_of (by rfl) T.z_tuple (by decide +kernel) (pa_cons (pe_lc (own := [("j", 9)]) (by rfl) sc__law_near.nd (pi_range1 rfl T.z_range (pa_cons pe_int pa_nil)) (blkOk_by (own := [("j", 9)]) (N := ["numbers", "keys", "floor", "scale", "txn", "some", "time", "kind", "reads", "j"]) (sc := defScope s__law_near) (by decide +kernel)) (fun _ _ _ _ _ => (pg_name (i := 9) sc__law_near.nd rfl (Or.inl rfl))) (fun _ _ _ _ _ => (pts_one (pt_cmpR op_eq (pe_op op_mod (pe_callTy call_int1 (by rfl) T.z_int (by decide +kernel) (pa_cons (pe_ix (ixK (K := K) (r := rIxL) rfl ix_list) (pv 0) (pe_op op_add pe_int (pv 9)) (fun _ _ => rfl)) pa_nil)) pe_int) pe_int (nomark _)))) (fun _ _ _ _ _ => (pe_ix (ixK (K := K) (r := rIxL) rfl ix_list) (pv 1) (pv 9) (fun _ _ => rfl)))) pa_nil)))
      (pss_one (ps_ret (pe_tup (pa_cons pe_str (pa_cons (pv 4) (pa_cons (pe_callB (call_max2 rfl) (by rfl) T.z_max (by decide +kernel) (pa_cons pe_int (pa_cons (pv 6) pa_nil))) (pa_cons (pe_op op_mod (pe_op op_fdiv (pv 5) pe_int) pe_int) (pa_cons (pv 8) (pa_cons (pe_call G__law_writes (hr.mono (by decide)) rfl T.g__law_writes T.F__law_writes.kp T.b__law_writes .nil passL (pa_cons (pe_slice sl_list (pv 0) (po_some pe_int) (po_some pe_int)) (pa_cons (pv 1) pa_nil))) pa_nil)))))))))) pss_nil)
      (pss_one (ps_ret (pe_tup (pa_cons (pe_ix ix_list (pe_lst (pa_cons pe_str (pa_cons pe_str pa_nil))) (pe_op op_mod (pe_callTy call_int1 (by rfl) T.z_int (by decide +kernel) (pa_cons (pe_ix ix_list (pv 0) pe_int (fun _ _ => rfl)) pa_nil)) pe_int) (fun _ _ => rfl)) (pa_cons (pv 4) (pa_cons (pe_callB (call_max2 rfl) (by rfl) T.z_max (by decide +kernel) (pa_cons pe_int (pa_cons (pe_ix ix_list (pe_lst (pa_cons pe_int (pa_cons (pv 2) (pa_cons (pv 6) (pa_cons (pe_op op_add (pv 6) pe_int) pa_nil))))) (pe_op op_sub (pv 7) pe_int) (fun _ _ => rfl)) pa_nil))) pa_nil)))))))))))), ?_⟩
  have nb : ∀ j, j < 13 → 0 ≤ ns.getD j 0 ∧ ns.getD j 0 < 1000 := fun j hj => hb _ (by
    rw [List.getD_eq_getElem?_getD, List.getElem?_eq_getElem (by omega)]
    exact List.getElem_mem _)
  have at_n : ∀ {H' : Hp}, Same H H' → H' nA = some (.lst (ns.map V.int)) := fun s => s _ _ hN
  refine ⟨_, rfl, nA, _, _, _, rfl, rfl, SqL.of hN, at_dd (D := ns) 0 rfl (by omega), .inl ⟨_, rfl, _, _, rfl, rfl, by show (0 : Int) < _; decide, _, _, rfl, rfl, _, rfl, _, _, rfl, rfl, .inl ⟨by omega, by omega⟩, ?_⟩⟩
  obtain ⟨x, hx⟩ : ∃ x, (1 + ns.getD 0 0 % 5) * sc = x := ⟨_, rfl⟩
  refine ⟨_, rfl, nA, _, _, _, rfl, rfl, SqL.of hN, at_dd (D := ns) 2 rfl (by omega), .inl ⟨_, rfl, ?_⟩⟩
  refine ⟨_, rfl, _, _, rfl, rfl, _, rfl, _, _, rfl, rfl, _, rfl, _, _, rfl, rfl, by show (0 : Int) < _; decide, _, _, rfl, rfl, ?_⟩
  refine ⟨_, rfl, _, rfl, _, _, rfl, rfl, ?_⟩
  refine ⟨_, rfl, _, _, rfl, rfl, by show (0 : Int) < _; decide, _, _, rfl, rfl, ?_⟩
  refine ⟨_, rfl, _, _, rfl, rfl, ⟨by decide, by decide, by decide⟩, _, _, rfl, rfl, (by show 6 ≤ sizeLine; decide), fun p np => ?_⟩
  have s1 := same_new (o := .lst [V.int (fl + 1), V.int (fl + 1 + ns.getD 2 0 % 4), V.int fl, V.int (fl - 1), V.int (1 + ns.getD 2 0 % 9), V.int (fl + 10 ^ (9 : Int).toNat)]) np
  obtain ⟨t, ht⟩ : ∃ t : Int, atI [V.int (fl + 1), V.int (fl + 1 + ns.getD 2 0 % 4), V.int fl, V.int (fl - 1), V.int (1 + ns.getD 2 0 % 9), V.int (fl + 10 ^ (9 : Int).toNat)] (ns.getD 1 0 % 6) = some (.int t) := by
    have := nb 1 (by decide)
    obtain ⟨j, hj, e⟩ : ∃ j : Nat, j < 6 ∧ ns.getD 1 0 % 6 = (j : Int) := ⟨(ns.getD 1 0 % 6).toNat, by omega, by omega⟩
    match j, hj with
    | 0, _ => exact ⟨_, at_of e rfl⟩
    | 1, _ => exact ⟨_, at_of e rfl⟩
    | 2, _ => exact ⟨_, at_of e rfl⟩
    | 3, _ => exact ⟨_, at_of e rfl⟩
    | 4, _ => exact ⟨_, at_of e rfl⟩
    | 5, _ => exact ⟨_, at_of e rfl⟩
  refine ⟨_, rfl, nA, _, _, _, rfl, rfl, SqL.of (at_n s1), at_dd (D := ns) 1 rfl (by omega), .inl ⟨_, rfl, _, _, rfl, rfl, by show (0 : Int) < _; decide, p, _, _, .int t, rfl, rfl, SqL.of upd_same, ht, ?_⟩⟩
  refine ⟨_, rfl, nA, _, _, _, rfl, rfl, SqL.of (at_n s1), at_dd (D := ns) 3 rfl (by omega), .inl ⟨_, rfl, _, _, rfl, rfl, by show (0 : Int) < _; decide, ?_⟩⟩
  have hk1 := s1 _ _ hK
  have hn1 := at_n s1
  show tSeq _ _ _ [some (.ref nA), some (.ref kA), some (.int fl), some (.int sc), some (.int ((1 + ns.getD 0 0 % 5) * sc)), some (.int (ns.getD 2 0)), some (.int t), some (.int (ns.getD 3 0 % 8)), none, none] (upd H p (.lst [V.int (fl + 1), V.int (fl + 1 + ns.getD 2 0 % 4), V.int fl, V.int (fl - 1), V.int (1 + ns.getD 2 0 % 9), V.int (fl + 10 ^ (9 : Int).toNat)]))
  rw [hx]
  generalize upd H p (.lst [V.int (fl + 1), V.int (fl + 1 + ns.getD 2 0 % 4), V.int fl, V.int (fl - 1), V.int (1 + ns.getD 2 0 % 9), V.int (fl + 10 ^ (9 : Int).toNat)]) = H1 at s1 hk1 hn1
  refine ⟨_, rfl, rfl, _, rfl, iteD (fun c1 => ?_) (fun c1 => ?_)⟩
  · exact ⟨_, rfl, _, _, rfl, (by show 2 ≤ sizeLine; decide), fun q nq => h1 q (.floor _) _ (s1.trans (same_new nq)) (s1.free nq) (.floor _ _ upd_same) trivial trivial⟩
  refine ⟨_, rfl, _, _, rfl, rfl, _, rfl, iteD (fun c2 => ?_) (fun c2 => ?_)⟩
  · refine ⟨4, rfl, by decide, by decide, fun D hD => ?_⟩
    refine lc_range (lo := 0) (n := 4) (fun i H' => Same H1 H' ∧ ∃ rs : List Str, rs.length ≤ i ∧ H' D = some (.lst (rs.map V.str)) ∧ ∀ k ∈ rs, k ∈ ks) ⟨same_new hD, [], Nat.le_refl _, upd_same, fun k hk => by simp at hk⟩ ?_ ?_
    · rintro i H' hi ⟨sA, rs, hl, hp, hin⟩
      refine ⟨rfl, _, rfl, _, rfl, _, _, rfl, rfl, nA, _, _, _, rfl, rfl, SqL.of (sA _ _ hn1), at_dd (D := ns) (i + 5) (by omega) (by omega), .inl ⟨_, rfl, _, _, rfl, rfl, by show (0 : Int) < _; decide, rfl, _, rfl, iteD (fun c3 => ?_) (fun c3 => ?_)⟩⟩
      · obtain ⟨k, hk2, hkm⟩ := at_strs (ks := ks) (z := 0 + (i : Int)) (by omega) (by omega)
        refine ⟨_, rfl, _, rfl, kA, _, _, .str k, rfl, rfl, SqL.of (sA _ _ hk1), hk2, _, hp, szl (by rw [List.length_map]; omega), same_mut sA hD, rs ++ [k], by rw [List.length_append]; show rs.length + 1 ≤ _; omega, by rw [upd_same, List.map_append]; rfl, fun x hx => ?_⟩
        rcases List.mem_append.mp hx with z | z
        · exact hin x z
        · have : x = k := by simpa using z
          rw [this]
          exact hkm
      · exact ⟨sA, rs, by omega, hp, hin⟩
    rintro H2 ⟨s2, rs, hl, hp, hin⟩
    refine ⟨D, _, rfl, .inl ⟨SqL.of hp, fun q nq => ?_⟩⟩
    have s3 := (s1.trans s2).trans (same_new (o := .tup (rs.map V.str)) nq)
    have hq3 : upd H2 q (.tup (rs.map V.str)) q = some (.tup (rs.map V.str)) := upd_same
    generalize upd H2 q (.tup (rs.map V.str)) = H3 at s3 hq3
    refine ⟨_, rfl, _, rfl, _, _, rfl, ?_⟩
    refine ⟨_, rfl, _, _, rfl, rfl, ⟨by decide, by decide⟩, _, _, rfl, rfl, by show (0 : Int) < _; decide, _, rfl, ?_⟩
    refine ⟨_, rfl, _, rfl, _, rfl, nA, _, rfl, SqL.of (at_n s3), fun q2 nq2 => ?_⟩
    rw [show (9 : Int) = ((9 : Nat) : Int) from rfl, show (13 : Int) = ((13 : Nat) : Int) from rfl, cut_fromto, ← List.map_drop, ← List.map_take]
    have s4 := s3.trans (same_new (o := .lst (((ns.drop 9).take (13 - 9)).map V.int)) nq2)
    have hq4 := same_new (o := .lst (((ns.drop 9).take (13 - 9)).map V.int)) nq2 _ _ hq3
    refine ⟨_, rfl, q2, kA, (ns.drop 9).take (13 - 9), ks, rfl, SqL.of upd_same, SqL.of (s4 _ _ hK), by rw [List.length_take, List.length_drop]; omega, hk, fun n hn => hb n (List.mem_of_mem_drop (List.mem_of_mem_take hn)), fun pw as ws H5 s5 npw hw hwl hwin => ⟨(by show 6 ≤ sizeLine; decide), fun p5 np5 => ?_⟩⟩
    have s6 := same_new (o := .tup [.str "prepare", .int x, .int (if t > 1 then t else 1), .int (ns.getD 2 0 / 9 % 3), .ref q, .ref pw]) np5
    exact h1 p5 (.prep x _ _ rs ws) _ ((s4.trans s5).trans s6) ((s4.trans s5).free np5) (.prep p5 q pw as x _ _ rs ws upd_same (s6 _ _ (s5 _ _ hq4)) (hw.same (Same.tp s6))) ⟨by omega, by omega⟩ ⟨hin, hwin⟩
  · have n3 := nb 3 (by decide)
    have n4 := nb 4 (by decide)
    refine ⟨(by show 2 ≤ sizeLine; decide), fun y ny => ?_⟩
    have s2 := s1.trans (same_new (o := .lst [V.str "decide", V.str "done"]) ny)
    obtain ⟨d, hd⟩ : ∃ d : Bool, atI [V.str "decide", V.str "done"] (ns.getD 4 0 % 2) = some (.str (if d = true then "decide" else "done")) := by
      obtain ⟨j, hj, e⟩ : ∃ j : Nat, j < 2 ∧ ns.getD 4 0 % 2 = (j : Int) := ⟨(ns.getD 4 0 % 2).toNat, by omega, by omega⟩
      match j, hj with
      | 0, _ => exact ⟨true, at_of e rfl⟩
      | 1, _ => exact ⟨false, at_of e rfl⟩
    refine ⟨_, rfl, nA, _, _, _, rfl, rfl, SqL.of (at_n s2), at_dd (D := ns) 4 rfl (by omega), .inl ⟨_, rfl, _, _, rfl, rfl, by show (0 : Int) < _; decide, y, _, _, _, rfl, rfl, SqL.of upd_same, hd, ?_⟩⟩
    refine ⟨_, rfl, _, rfl, _, rfl, _, rfl, _, _, rfl, rfl, (by show 4 ≤ sizeLine; decide), fun z nz => ?_⟩
    have s3 := s2.trans (same_new (o := .lst [V.int 0, V.int fl, V.int t, V.int (t + 2)]) nz)
    obtain ⟨u, hu⟩ : ∃ u : Int, atI [V.int 0, V.int fl, V.int t, V.int (t + 2)] (ns.getD 3 0 % 8 - 4) = some (.int u) := by
      have c2 : ¬ ns.getD 3 0 % 8 < 4 := c2
      obtain ⟨j, hj, e⟩ : ∃ j : Nat, j < 4 ∧ ns.getD 3 0 % 8 - 4 = (j : Int) := ⟨(ns.getD 3 0 % 8 - 4).toNat, by omega, by omega⟩
      match j, hj with
      | 0, _ => exact ⟨_, at_of e rfl⟩
      | 1, _ => exact ⟨_, at_of e rfl⟩
      | 2, _ => exact ⟨_, at_of e rfl⟩
      | 3, _ => exact ⟨_, at_of e rfl⟩
    refine ⟨_, rfl, _, _, rfl, rfl, z, _, _, .int u, rfl, rfl, SqL.of upd_same, hu, _, _, rfl, (by show 3 ≤ sizeLine; decide), fun q nq => ?_⟩
    exact h1 q (.dec d x (if u > 0 then u else 0)) _ (s3.trans (same_new nq)) (s3.free nq) (.dec q d x _ upd_same) (by show (0 : Int) ≤ if u > 0 then u else 0; split <;> omega) trivial

--PART /work/steering/wip/parts/sv17.lean
theorem StAt.same {T : Env K mg} {H H' : Hp} {a c v h o : Addr} {S : SS} (x : StAt T H a c v h o S) (s : Same H H') : StAt T H' a c v h o S := ⟨x.ob.same s, x.he.same s, s _ _ x.ou, x.ce.same s, x.ho, x.hv, x.ov, x.ca, x.bd⟩
theorem StAt.deal {T : Env K mg} {H H' : Hp} {a c v h o pl dh dO dr : Addr} {S : SS} {Z : PL} (x : StAt T H a c v h o S) (y : PlAt H pl dh dO dr Z) (k : ∀ b u, H b = some u → b ≠ pl → b ≠ dh → b ≠ dO → b ≠ dr → H' b = some u) (nh : h ≠ dh ∧ h ≠ dO ∧ h ≠ dr) (no : o ≠ dh ∧ o ≠ dO ∧ o ≠ dr) (nv : v ≠ dh ∧ v ≠ dO ∧ v ≠ dr) (xV : ∀ e ∈ S.V, e.2.1 ≠ pl) : StAt T H' a c v h o S := by
  have pk : ∀ {b : Addr} {u : HO}, H b = some u → (∀ xs, u ≠ .lst xs) → b ≠ pl := fun hb hu w => by
    rw [w, y.at_] at hb
    exact hu _ (Option.some.inj hb).symm
  have d1 : ∀ {b : Addr} {u : HO}, H b = some u → (∀ m, u ≠ .dK m) → b ≠ dh ∧ b ≠ dO ∧ b ≠ dr := fun hb hu => ⟨fun w => by
    rw [w, y.he.at_] at hb
    exact hu _ (Option.some.inj hb).symm, fun w => by
    rw [w, y.ou] at hb
    exact hu _ (Option.some.inj hb).symm, fun w => by
    rw [w, y.ro.at_] at hb
    exact hu _ (Option.some.inj hb).symm⟩
  have kd : ∀ {b : Addr} {m}, H b = some (.dK m) → (b ≠ dh ∧ b ≠ dO ∧ b ≠ dr) → H' b = some (.dK m) := fun hb n => k _ _ hb (pk hb fun _ q => by cases q) n.1 n.2.1 n.2.2
  have kg : ∀ {b : Addr} {u : HO}, H b = some u → (∀ m, u ≠ .dK m) → b ≠ pl → H' b = some u := fun hb hu n => k _ _ hb n (d1 hb hu).1 (d1 hb hu).2.1 (d1 hb hu).2.2
  have tp : Tp H H' := fun b xs hb => kg hb (fun _ q => by cases q) (pk hb fun _ q => by cases q)
  obtain ⟨dx, ha⟩ := x.ob
  obtain ⟨dc, hc⟩ := x.ce.ob
  refine ⟨⟨dx, kg ha (fun _ q => by cases q) (pk ha fun _ q => by cases q)⟩, ⟨kd x.he.at_ nh, x.he.nd, fun e he => (x.he.each e he).same tp⟩, kd x.ou no, ⟨⟨dc, kg hc (fun _ q => by cases q) (pk hc fun _ q => by cases q)⟩, kd x.ce.at_ nv, x.ce.nd, x.ce.ad, fun e he => ?_⟩, x.ho, x.hv, x.ov, x.ca, x.bd⟩
  obtain ⟨as, g1, g2, g3⟩ := x.ce.vs e he
  exact ⟨as, ⟨kg g1.at_ (fun _ q => by cases q) (xV e he), g1.len, fun j b hj => by
    obtain ⟨p, k1, k2⟩ := g1.each j b hj
    exact ⟨p, k1, tp _ _ k2⟩⟩, g2, g3⟩
theorem PlAt.apply {T : Env K mg} {H H' : Hp} {a c v h o pl dh dO dr : Addr} {S : SS} {Z : PL} (y : PlAt H pl dh dO dr Z) (x : StAt T H a c v h o S) (k : Ks H H' a v h o S.V) (nh : h ≠ dh ∧ h ≠ dO ∧ h ≠ dr) (no : o ≠ dh ∧ o ≠ dO ∧ o ≠ dr) (nv : v ≠ dh ∧ v ≠ dO ∧ v ≠ dr) (xV : ∀ e ∈ S.V, e.2.1 ≠ pl ∧ ∀ e' ∈ Z.R, e.2.1 ≠ e'.2.1) : PlAt H' pl dh dO dr Z := by
  obtain ⟨dx, ha⟩ := x.ob
  have na : ∀ {b : Addr} {u : HO}, H b = some u → (∀ C d f, u ≠ .ins C d f) → b ≠ a := fun hb hu w => by
    rw [w, ha] at hb
    exact hu _ _ _ (Option.some.inj hb).symm
  have nd : ∀ {b : Addr} {u : HO}, H b = some u → (∀ m, u ≠ .dK m) → b ≠ h ∧ b ≠ o ∧ b ≠ v := fun hb hu => ⟨fun w => by
    rw [w, x.he.at_] at hb
    exact hu _ (Option.some.inj hb).symm, fun w => by
    rw [w, x.ou] at hb
    exact hu _ (Option.some.inj hb).symm, fun w => by
    rw [w, x.ce.at_] at hb
    exact hu _ (Option.some.inj hb).symm⟩
  have nV : ∀ {b : Addr} {u : HO}, H b = some u → (∀ xs, u ≠ .lst xs) → ∀ e ∈ S.V, b ≠ e.2.1 := fun hb hu e he w => by
    obtain ⟨xs, z, y2, g1, g2, g3⟩ := x.ce.each e he
    rw [w, g2] at hb
    exact hu _ (Option.some.inj hb).symm
  have tp : Tp H H' := fun b xs hb => k _ _ hb (na hb fun _ _ _ q => by cases q) (nd hb fun _ q => by cases q).1 (nd hb fun _ q => by cases q).2.1 (nd hb fun _ q => by cases q).2.2 (nV hb fun _ q => by cases q)
  have kd : ∀ {b : Addr} {m}, H b = some (.dK m) → b ≠ h → b ≠ o → b ≠ v → H' b = some (.dK m) := fun hb n1 n2 n3 => k _ _ hb (na hb fun _ _ _ q => by cases q) n1 n2 n3 (nV hb fun _ q => by cases q)
  have kl : ∀ {b : Addr} {xs}, H b = some (.lst xs) → (∀ e ∈ S.V, b ≠ e.2.1) → H' b = some (.lst xs) := fun hb n => k _ _ hb (na hb fun _ _ _ q => by cases q) (nd hb fun _ q => by cases q).1 (nd hb fun _ q => by cases q).2.1 (nd hb fun _ q => by cases q).2.2 n
  refine ⟨kl y.at_ fun e he => Ne.symm (xV e he).1, ⟨kd y.he.at_ (Ne.symm nh.1) (Ne.symm no.1) (Ne.symm nv.1), y.he.nd, fun e he => (y.he.each e he).same tp⟩, kd y.ou (Ne.symm nh.2.1) (Ne.symm no.2.1) (Ne.symm nv.2.1), ⟨kd y.ro.at_ (Ne.symm nh.2.2) (Ne.symm no.2.2) (Ne.symm nv.2.2), fun e' he' => ?_⟩, y.ho, y.hr, y.or, y.pr, y.bd⟩
  obtain ⟨as, g1, g2⟩ := y.ro.each e' he'
  exact ⟨as, ⟨kl g1.at_ fun e he => Ne.symm ((xV e he).2 e' he'), g1.len, fun j b hj => by
    obtain ⟨p, k1, k2⟩ := g1.each j b hj
    exact ⟨p, k1, tp _ _ k2⟩⟩, g2⟩
theorem RecAt.tp {H H' : Hp} {ra : Addr} {r : Rec} (h : RecAt H ra r) (s : Tp H H') : RecAt H' ra r := by
  cases h with
  | floor t h => exact .floor _ t (s _ _ h)
  | prep r w as x t ld rs ws h hr hw => exact .prep _ r w as x t ld rs ws (s _ _ h) (s _ _ hr) (hw.same s)
  | dec d x t h => exact .dec _ d x t (s _ _ h)
theorem PPost.tp {H H' : Hp} {pl dh dO dr : Addr} {Z Z' : PL} {r : Rec} {b : Bool} (h : PPost H H' pl dh dO dr Z Z' r b) (y : PlAt H pl dh dO dr Z) : Tp H H' := fun b xs hb => h.keep b _ hb (fun w => by
    rw [w, y.at_] at hb
    cases hb) (fun w => by
    rw [w, y.he.at_] at hb
    cases hb) (fun w => by
    rw [w, y.ou] at hb
    cases hb) (fun w => by
    rw [w, y.ro.at_] at hb
    cases hb)

--PART /work/steering/wip/parts/sv18.lean
def IsMin (m : Int) (ns : List Int) : Prop := m ∈ ns ∧ ∀ y ∈ ns, m ≤ y
theorem IsMin.eq {m m' : Int} {ns : List Int} (h : IsMin m ns) (h' : IsMin m' ns) : m = m' := by
  have := h.2 m' h'.1
  have := h'.2 m h.1
  omega
def tms (P : List (Int × Hd)) : List Int := P.map fun e => e.2.t - 1
def sp_State_floor (T : Env K mg) : Sp := fun vs H Q E => ∃ (a c h o : Addr) (fl : Int), vs = [.ref a] ∧ ObAt T H a c h o fl ∧ Q (.int fl) H
theorem ok_State_floor (T : Env K mg) : FnOk P w K mg base (L2.CX P w) 1 T.a_State_floor T.d_State_floor ["self"] (sp_State_floor T) := by
  refine T.F_State_floor.okX sc_State_floor (fun vs H Q E h => by obtain ⟨_, _, _, _, _, rfl, _⟩ := h; rfl) (fun cdv A outer s H vs Q E hr h => ?_)
  obtain ⟨a, c, h, o, fl, rfl, ⟨dx, ha⟩, h1⟩ := h
  refine ⟨_, (pss_one (ps_ret (pe_fld (pv 0) rfl))), ?_⟩
  exact ⟨_, rfl, a, _, _, _, _, rfl, ha, T.k_State.cl, T.n_State__floor, stf_floor _ _ _ _, h1⟩
theorem hm_get {M : HM} {i : Nat} {k : Key} {x : V} (h : (toD Sum.inl hg M)[i]? = some (k, x)) : ∃ e, M[i]? = some e ∧ k = Sum.inl e.1 ∧ x = .ref e.2.1 := by
  unfold toD at h
  rw [List.getElem?_map] at h
  cases q : M[i]? with
  | none => rw [q] at h; cases h
  | some e =>
    rw [q] at h
    have := Option.some.inj h
    exact ⟨e, rfl, (congrArg Prod.fst this).symm, (congrArg Prod.snd this).symm⟩
/-- all but the thing at d stays, and d is locked -/
structure Lck (H H' : Hp) (d : Addr) (u : HO) (od : Obj) : Prop where
  k : ∀ b o, H b = some o → b ≠ d → H' b = some o
  f : H' d = some (.frz od u)
theorem Lck.un {H H' : Hp} {d : Addr} {u : HO} {od : Obj} (l : Lck H H' d u od) (hd : H d = some u) : Same H (upd H' d u) := fun b o hb => by
  by_cases q : b = d
  · rw [q, upd_same, ← hd, ← q, hb]
  · rw [upd_ne q]
    exact l.k _ _ hb q
def sp_State_settled (T : Env K mg) : Sp := fun vs H Q E => ∃ (a c h o : Addr) (fl : Int) (M : HM), vs = [.ref a] ∧ ObAt T H a c h o fl ∧ HeldAt H h M ∧ M.length ≤ 60 ∧ ∀ m H', Same H H' → IsMin m (fl :: tms (pst M)) → Q (.int m) H'
theorem ok_State_settled (T : Env K mg) : FnOk P w K mg base (L2.CX P w) 1 T.a_State_settled T.d_State_settled ["self"] (sp_State_settled T) := by
  refine T.F_State_settled.okX sc_State_settled (fun vs H Q E h => by obtain ⟨_, _, _, _, _, _, rfl, _⟩ := h; rfl) (fun cdv A outer s H vs Q E hr h => ?_)
  obtain ⟨a, c, h, o, fl, M, rfl, ⟨dx, ha⟩, hM, hMl, h1⟩ := h
  refine ⟨_, (pss_one (ps_ret (pe_callB (cr_min rfl) (by rfl) T.z_min (by decide +kernel) (pa_cons (pe_op op_cat (pe_lst (pa_cons (pe_fld (pv 0) rfl) pa_nil)) (pe_lock (pe_lc (own := [("time", 1), ("_", 2)]) (by rfl) sc_State_settled.nd (pi_values (pe_fld (pv 0) rfl)) (blkOk_by (own := [("time", 1), ("_", 2)]) (N := ["self", "time", "_"]) (sc := defScope s_State_settled) (by decide +kernel)) (fun _ _ _ _ _ => (show PG _ _ (gTup K 4 (gCons (gName 1) (gCons (gName 2) (gCons (gName 2) (gCons (gName 2) gNil))))) from (pg_tup rfl (pgs_cons (pg_name (i := 1) sc_State_settled.nd rfl (Or.inl rfl)) (pgs_cons (pg_name (i := 2) sc_State_settled.nd rfl (Or.inl rfl)) (pgs_cons (pg_name (i := 2) sc_State_settled.nd rfl (Or.inl rfl)) (pgs_cons (pg_name (i := 2) sc_State_settled.nd rfl (Or.inl rfl)) pgs_nil))))))) (fun _ _ _ _ _ => pts_nil) (fun _ _ _ _ _ => (pe_op op_sub (pv 1) pe_int))))) pa_nil)))), ?_⟩
  refine ⟨_, rfl, a, _, _, _, _, rfl, ha, T.k_State.cl, T.n_State__floor, stf_floor _ _ _ _, (by show 1 ≤ sizeLine; decide), fun q nq => ?_⟩
  have s1 := same_new (o := .lst [.int fl]) nq
  have hq := upd_same (H := H) (a := q) (o := HO.lst [.int fl])
  have hM1 := hM.same s1
  have ha1 := s1 _ _ ha
  generalize upd H q (.lst [.int fl]) = H1 at s1 hq hM1 ha1
  have hah : a ≠ h := fun w => by
    rw [w, hM1.at_] at ha1
    cases ha1
  refine ⟨h, _, hM1.at_, True.intro, fun od => ?_⟩
  have hL0 : Lck H1 (upd H1 h (.frz od (.dK (toD Sum.inl hg M)))) h (.dK (toD Sum.inl hg M)) od := ⟨fun b u hb hn => by rw [upd_ne hn]; exact hb, upd_same⟩
  refine ⟨_, rfl, a, _, _, _, _, rfl, hL0.k _ _ ha1 hah, T.k_State.cl, T.n_State__held, stf_held _ _ _ _, h, od, _, rfl, hL0.f, fun D hD => ?_⟩
  have hDh : D ≠ h := fun w => by
    rw [w, upd_same] at hD
    cases hD
  have hD1 : H1 D = none := by
    rw [upd_ne hDh] at hD
    exact hD
  have hlen : (toD Sum.inl hg M).length = M.length := by unfold toD; rw [List.length_map]
  refine lc_it (Qd := _) walk_values (fun i H' => Lck H1 H' h (.dK (toD Sum.inl hg M)) od ∧ H' D = some (.lst ((tms (pst (M.take i))).map V.int))) ⟨⟨fun b u hb hn => by
    rw [upd_ne (ne_of_none hb hD1)]
    exact hL0.k _ _ hb hn, by rw [upd_ne (Ne.symm hDh)]; exact upd_same⟩, upd_same⟩ (fun i H' _ h => h.1.f) ?_ ?_
  · rintro i x H' H'' hi ⟨hL, hp⟩ ⟨rfl, k, hk⟩
    obtain ⟨e, he, rfl, rfl⟩ := hm_get hk
    rw [hlen] at hi
    obtain ⟨r, w, as, hA, hR, hW⟩ := (hM1.each e (List.mem_of_getElem? he)).ex
    have hA' := hL.k _ _ hA fun q => by
      rw [q, hM1.at_] at hA
      cases hA
    refine ⟨_, _, rfl, SqT.of hA', rfl, _, _, rfl, _, _, rfl, _, _, rfl, _, _, rfl, rfl, rfl, yes_if ⟨_, rfl, _, _, rfl, rfl, _, hp, szl (by unfold tms pst; rw [List.length_map, List.length_map, List.length_map, List.length_take]; omega), ⟨fun b u hb hn => ?_, ?_⟩, ?_⟩⟩
    · rw [upd_ne (ne_of_none hb hD1)]
      exact hL.k _ _ hb hn
    · rw [upd_ne (Ne.symm hDh)]
      exact hL.f
    · rw [upd_same, take_succ he]
      unfold tms pst
      rw [List.map_append, List.map_append, List.map_append]
      rfl
  · rintro H' ⟨hL, hp⟩
    rw [hlen, List.take_length] at hp
    refine ⟨hL.f, ?_⟩
    have s2 := hL.un hM1.at_
    have hp2 : upd H' h (.dK (toD Sum.inl hg M)) D = some (.lst ((tms (pst M)).map V.int)) := by rw [upd_ne hDh]; exact hp
    have hq2 := s2 _ _ hq
    refine ⟨q, D, [.int fl], (tms (pst M)).map V.int, rfl, rfl, hq2, hp2, szle (by unfold tms pst; rw [List.length_map, List.length_map, List.length_map]; show 1 + _ ≤ _; omega), fun z nz => ?_⟩
    have s3 := s2.trans (same_new (o := .lst ([.int fl] ++ (tms (pst M)).map V.int)) nz)
    exact ⟨z, fl :: tms (pst M), rfl, SqL.of upd_same, Nat.succ_pos _, fun m hm hle => h1 m _ (s1.trans s3) ⟨hm, hle⟩⟩
def sp_State_outcome (T : Env K mg) : Sp := fun vs H Q E => ∃ (a c h o : Addr) (fl : Int) (O : List (Int × Int)) (k : Int), vs = [.ref a, .int k] ∧ ObAt T H a c h o fl ∧ H o = some (.dK (toD Sum.inl V.int O)) ∧ Q (((gget O k).map V.int).getD .non) H
theorem ok_State_outcome (T : Env K mg) : FnOk P w K mg base (L2.CX P w) 1 T.a_State_outcome T.d_State_outcome ["self", "txn"] (sp_State_outcome T) := by
  refine T.F_State_outcome.okX sc_State_outcome (fun vs H Q E h => by obtain ⟨_, _, _, _, _, _, _, rfl, _⟩ := h; rfl) (fun cdv A outer s H vs Q E hr h => ?_)
  obtain ⟨a, c, h, o, fl, O, k, rfl, ⟨dx, ha⟩, hO, h1⟩ := h
  refine ⟨_, (pss_one (ps_ret (pe_dget1 (hu_of hr) (pe_fld (pv 0) rfl) (pv 1) ⟨rfl, rfl, rfl, rfl⟩))), ?_⟩
  exact ⟨_, rfl, a, _, _, _, _, rfl, ha, T.k_State.cl, T.n_State__outcomes, stf_outs _ _ _ _, o, rfl, .inl ⟨_, .inl hO⟩, _, rfl, _, dgetI hO k, h1⟩
theorem keysI' {β : Type} (g : β → V) (M : List (Int × β)) : (toD Sum.inl g M).map (·.1) = (gkeys M).map (Sum.inl : Int → Key) := by
  unfold toD gkeys
  rw [List.map_map, List.map_map]
  rfl
/-- pairs of outcomes in a list -/
structure OL (H : Hp) (p : Addr) (as : List Addr) (O : List (Int × Int)) (ys : List Int) : Prop where
  at_ : H p = some (.lst (as.map V.ref))
  len : as.length = ys.length
  each : ∀ (j : Nat) (a : Addr), as[j]? = some a → ∃ k, ys[j]? = some k ∧ H a = some (.tup [.int k, .int ((gget O k).getD 0)])
theorem OL.same {H H' : Hp} {p : Addr} {as : List Addr} {O : List (Int × Int)} {ys : List Int} (h : OL H p as O ys) (s : Same H H') : OL H' p as O ys := ⟨s _ _ h.at_, h.len, fun j a e => by
  obtain ⟨o, h1, h2⟩ := h.each j a e
  exact ⟨o, h1, s _ _ h2⟩⟩
theorem OL.push {H H1 : Hp} {p q : Addr} {as : List Addr} {O : List (Int × Int)} {ys : List Int} (h : OL H p as O ys) (s : Same H H1) {k : Int} (hq : H1 q = some (.tup [.int k, .int ((gget O k).getD 0)])) : OL (upd H1 p (.lst (as.map V.ref ++ [.ref q]))) p (as ++ [q]) O (ys ++ [k]) := by
  have hp1 := s _ _ h.at_
  have ne : ∀ {b : Addr} {xs : List V}, H1 b = some (.tup xs) → b ≠ p := fun hb w => by
    rw [w, hp1] at hb
    cases hb
  refine ⟨by rw [upd_same, List.map_append]; rfl, by rw [List.length_append, List.length_append, h.len]; rfl, fun j b hj => ?_⟩
  by_cases c : j < as.length
  · rw [List.getElem?_append_left c] at hj
    obtain ⟨e, g2, g3⟩ := h.each j b hj
    have g4 := s _ _ g3
    exact ⟨e, by rw [List.getElem?_append_left (by rw [← h.len]; exact c)]; exact g2, by rw [upd_ne (ne g4)]; exact g4⟩
  · have hj2 : j = as.length := by
      have := (List.getElem?_eq_some_iff.mp hj).1
      rw [List.length_append] at this
      have : j < as.length + 1 := this
      omega
    subst hj2
    rw [List.getElem?_append_right (Nat.le_refl _), Nat.sub_self] at hj
    have eb : q = b := Option.some.inj hj
    subst eb
    exact ⟨k, by rw [h.len, List.getElem?_append_right (Nat.le_refl _), Nat.sub_self]; rfl, by rw [upd_ne (ne hq)]; exact hq⟩
def sp_State_all_outcomes (T : Env K mg) : Sp := fun vs H Q E => ∃ (a c h o : Addr) (fl : Int) (O : List (Int × Int)), vs = [.ref a] ∧ ObAt T H a c h o fl ∧ H o = some (.dK (toD Sum.inl V.int O)) ∧ O.length ≤ 60 ∧ (gkeys O).Nodup ∧ ∀ p as ys H', Same H H' → H p = none → SrtI (gkeys O) ys → OL H' p as O ys → Q (.ref p) H'
theorem ok_State_all_outcomes (T : Env K mg) : FnOk P w K mg base (L2.CX P w) 1 T.a_State_all_outcomes T.d_State_all_outcomes ["self"] (sp_State_all_outcomes T) := by
  refine T.F_State_all_outcomes.okX sc_State_all_outcomes (fun vs H Q E h => by obtain ⟨_, _, _, _, _, _, rfl, _⟩ := h; rfl) (fun cdv A outer s H vs Q E hr h => ?_)
  obtain ⟨a, c, h, o, fl, O, rfl, ⟨dx, ha⟩, hO, hl, hnd, h1⟩ := h
  refine ⟨_, (pss_one (ps_ret (pe_lc (own := [("txn", 1)]) (by rfl) sc_State_all_outcomes.nd (pi_list (pe_callB (call_sortedDI rfl) (by rfl) T.z_sorted (by decide +kernel) (pa_cons (pe_fld (pv 0) rfl) pa_nil))) (blkOk_by (own := [("txn", 1)]) (N := ["self", "txn"]) (sc := defScope s_State_all_outcomes) (by decide +kernel)) (fun _ _ _ _ _ => (pg_name (i := 1) sc_State_all_outcomes.nd rfl (Or.inl rfl))) (fun _ _ _ _ _ => pts_nil) (fun _ _ _ _ _ => (pe_tup (pa_cons (pv 1) (pa_cons (pe_dget (hu_of hr) (pe_fldK (K := K) rfl (pv 0) rfl) (pv 1) (fun _ _ => rfl)) pa_nil))))))), ?_⟩
  refine ⟨_, rfl, a, _, _, _, _, rfl, ha, T.k_State.cl, T.n_State__outcomes, stf_outs _ _ _ _, o, _, gkeys O, rfl, .inl hO, keysI' _ _, (by unfold gkeys; rw [List.length_map]; omega), fun ys p hp hs np => ⟨p, rfl, ⟨_, SqL.of upd_same⟩, fun D hD => ?_⟩⟩
  have s1 := same_new (o := .lst (ys.map V.int)) np
  have hp1 := upd_same (H := H) (a := p) (o := HO.lst (ys.map V.int))
  generalize upd H p (.lst (ys.map V.int)) = H1 at s1 hp1 hD
  have hyl : ys.length ≤ 60 := by
    rw [hp.length_eq]
    unfold gkeys
    rw [List.length_map]
    exact hl
  refine lc_list (K := K) (a := p) (xs := ys.map V.int) (fun i H' => Same H1 H' ∧ ∃ as, OL H' D as O (ys.take i)) ⟨same_new hD, [], upd_same, rfl, fun j a h => by simp at h⟩ (fun i H' _ h => SqL.of (h.1 _ _ hp1)) ?_ ?_
  · rintro i x H' hx ⟨sB, as, hL⟩
    obtain ⟨y, hy, rfl⟩ := mem_int hx
    have hi : i < ys.length := (List.getElem?_eq_some_iff.mp hy).1
    have hym : y ∈ gkeys O := hp.mem_iff.mp (List.mem_of_getElem? hy)
    obtain ⟨e, he⟩ : ∃ e, gget O y = some e := by
      cases q : gget O y with
      | none => exact absurd hym (gget_none.mp q)
      | some e => exact ⟨e, rfl⟩
    have hO' := sB _ _ (s1 _ _ hO)
    have ha' := sB _ _ (s1 _ _ ha)
    refine ⟨rfl, yes_if ⟨_, rfl, _, rfl, a, _, _, _, _, rfl, ha', T.k_State.cl, T.n_State__outcomes, stf_outs _ _ _ _, _, rfl, o, .int e, rfl, (by have := dgetI hO' y; rw [he] at this; exact this), (by show 2 ≤ sizeLine; decide), fun z nz => ?_⟩⟩
    have sz := same_new (o := .tup [.int y, .int e]) nz
    refine ⟨_, sz _ _ hL.at_, szl (by rw [List.length_map, hL.len, List.length_take]; omega), same_mut (sB.trans sz) hD, as ++ [z], ?_⟩
    rw [take_succ hy]
    exact hL.push sz (by rw [upd_same, he]; rfl)
  · rintro H' ⟨sB, as, hL⟩
    rw [List.length_map, List.take_length] at hL
    exact h1 D as ys H' (s1.trans sB) (s1.free hD) ⟨hp, hs⟩ hL
def sp_Cells_versions (T : Env K mg) : Sp := fun vs H Q E => ∃ (c v : Addr) (M : VM) (n : Nat) (k : Str), vs = [.ref c, .str k] ∧ CeAt T H c v M n ∧ ∀ p as H', Same H H' → VsAt H' p as ((gget (pvt M) k).getD []) → Q (.ref p) H'
theorem ok_Cells_versions (T : Env K mg) : FnOk P w K mg base (L2.CX P w) 1 T.a_Cells_versions T.d_Cells_versions ["self", "key"] (sp_Cells_versions T) := by
  refine T.F_Cells_versions.okX sc_Cells_versions (fun vs H Q E h => by obtain ⟨_, _, _, _, _, rfl, _⟩ := h; rfl) (fun cdv A outer s H vs Q E hr h => ?_)
  obtain ⟨c, v, M, n, k, rfl, hC, h1⟩ := h
  refine ⟨_, (pss_one (ps_ret (pe_callTy call_list_of (by rfl) T.z_list (by decide +kernel) (pa_cons (pe_dget2 (hu_of hr) (pe_fld (pv 0) rfl) (pv 1) (pe_tup pa_nil) ⟨rfl, rfl, rfl, rfl⟩) pa_nil)))), ?_⟩
  obtain ⟨dx, hc⟩ := hC.ob
  refine ⟨_, rfl, c, _, _, _, _, rfl, hc, T.k_Cells.cl, T.n_Cells__versions, cef_v _, v, rfl, .inl ⟨_, .inl hC.at_⟩, _, rfl, (by show 0 ≤ sizeLine; decide), fun l nl => ⟨_, dgetS (same_new nl _ _ hC.at_) k, ?_⟩⟩
  have sl := same_new (o := .tup []) nl
  rw [pvt_get] at h1
  cases q : gget M k with
  | none =>
    rw [q] at h1
    refine ⟨l, _, rfl, .inr (SqT.of upd_same), fun p np => ?_⟩
    exact h1 p [] _ (sl.trans (same_new np)) ⟨upd_same, rfl, fun j b hj => by simp at hj⟩
  | some e =>
    rw [q] at h1
    obtain ⟨as, hV, _, _⟩ := hC.vs _ (gget_some q)
    have hV1 := hV.same sl
    refine ⟨e.1, _, rfl, .inl (SqL.of hV1.at_), fun p np => ?_⟩
    have sp := same_new (o := .lst (as.map V.ref)) np
    exact h1 p as _ (sl.trans sp) ⟨upd_same, hV.len, (hV1.same sp).each⟩
def sp__law_settled (T : Env K mg) : Sp := fun vs H Q E => ∃ (pl dh dO dr : Addr) (fl : Int) (M : HM), vs = [.ref pl] ∧ H pl = some (.lst [.int fl, .ref dh, .ref dO, .ref dr]) ∧ HeldAt H dh M ∧ M.length ≤ 60 ∧ ∀ m H', Same H H' → IsMin m (fl :: tms (pst M)) → Q (.int m) H'
theorem ok__law_settled (T : Env K mg) : FnOk P w K mg base (L2.CX P w) 1 T.a__law_settled T.d__law_settled ["plain"] (sp__law_settled T) := by
  refine T.F__law_settled.okX sc__law_settled (fun vs H Q E h => by obtain ⟨_, _, _, _, _, _, rfl, _⟩ := h; rfl) (fun cdv A outer s H vs Q E hr h => ?_)
  obtain ⟨pl, h, dO, dr, fl, M, rfl, hP, hM, hMl, h1⟩ := h
  refine ⟨_, (pss_one (ps_ret (pe_callB (cr_min rfl) (by rfl) T.z_min (by decide +kernel) (pa_cons (pe_op op_cat (pe_lst (pa_cons (pe_ix ix_list (pv 0) pe_int (fun _ _ => rfl)) pa_nil)) (pe_lock (pe_lc (own := [("txn", 1)]) (by rfl) sc__law_settled.nd (pi_keys (pe_ix ix_list (pv 0) pe_int (fun _ _ => rfl))) (blkOk_by (own := [("txn", 1)]) (N := ["plain", "txn"]) (sc := defScope s__law_settled) (by decide +kernel)) (fun _ _ _ _ _ => (pg_name (i := 1) sc__law_settled.nd rfl (Or.inl rfl))) (fun _ _ _ _ _ => pts_nil) (fun _ _ _ _ _ => (pe_op op_sub (pe_ix (ixK (K := K) (r := rIxT) rfl ix_tup) (pe_dget (hu_of hr) (pe_ix (ixK (K := K) (r := rIxL) rfl ix_list) (pv 0) pe_int (fun _ _ => rfl)) (pv 1) (fun _ _ => rfl)) pe_int (fun _ _ => rfl)) pe_int))))) pa_nil)))), ?_⟩
  refine ⟨_, rfl, pl, _, _, .int fl, rfl, rfl, SqL.of hP, atI_nat (j := 0) rfl, (by show 1 ≤ sizeLine; decide), fun q nq => ?_⟩
  have s1 := same_new (o := .lst [.int fl]) nq
  have hq := upd_same (H := H) (a := q) (o := HO.lst [.int fl])
  have hM1 := hM.same s1
  have hP1 := s1 _ _ hP
  generalize upd H q (.lst [.int fl]) = H1 at s1 hq hM1 hP1
  have hph : pl ≠ h := fun w => by
    rw [w, hM1.at_] at hP1
    cases hP1
  refine ⟨h, _, hM1.at_, True.intro, fun od => ?_⟩
  have hL0 : Lck H1 (upd H1 h (.frz od (.dK (toD Sum.inl hg M)))) h (.dK (toD Sum.inl hg M)) od := ⟨fun b u hb hn => by rw [upd_ne hn]; exact hb, upd_same⟩
  refine ⟨_, rfl, pl, _, _, _, rfl, rfl, SqL.of (hL0.k _ _ hP1 hph), atI_nat (j := 1) rfl, h, od, rfl, .inl ⟨_, hL0.f, fun D hD => ?_⟩⟩
  have hDh : D ≠ h := fun w => by
    rw [w, upd_same] at hD
    cases hD
  have hD1 : H1 D = none := by
    rw [upd_ne hDh] at hD
    exact hD
  have hlen : (toD Sum.inl hg M).length = M.length := by unfold toD; rw [List.length_map]
  refine lc_it (Qd := _) walk_keys (fun i H' => Lck H1 H' h (.dK (toD Sum.inl hg M)) od ∧ H' D = some (.lst ((tms (pst (M.take i))).map V.int))) ⟨⟨fun b u hb hn => by
    rw [upd_ne (ne_of_none hb hD1)]
    exact hL0.k _ _ hb hn, by rw [upd_ne (Ne.symm hDh)]; exact upd_same⟩, upd_same⟩ (fun i H' _ h => h.1.f) ?_ ?_
  · rintro i x H' H'' hi ⟨hL, hp⟩ ⟨rfl, k, v, hk, rfl⟩
    obtain ⟨e, he, rfl, rfl⟩ := hm_get hk
    rw [hlen] at hi
    have hem := List.mem_of_getElem? he
    obtain ⟨r, w, as, hA, hR, hW⟩ := (hM1.each e hem).ex
    have hA' := hL.k _ _ hA fun q => by
      rw [q, hM1.at_] at hA
      cases hA
    have hge : gget M e.1 = some e.2 := gget_mem hM.nd hem
    refine ⟨rfl, yes_if ⟨_, rfl, pl, _, _, _, rfl, rfl, SqL.of (hL.k _ _ hP1 hph), atI_nat (j := 1) rfl, _, rfl, h, hg e.2, rfl, .inl ⟨_, Sum.inl e.1, .inr ⟨od, hL.f⟩, rfl, by rw [toD_get inl_inj, hge]; rfl⟩, e.2.1, _, _, .int e.2.2.t, rfl, rfl, SqT.of hA', atI_nat (j := 0) rfl, _, _, rfl, rfl, _, hp, szl (by unfold tms pst; rw [List.length_map, List.length_map, List.length_map, List.length_take]; omega), ⟨fun b u hb hn => ?_, ?_⟩, ?_⟩⟩
    · rw [upd_ne (ne_of_none hb hD1)]
      exact hL.k _ _ hb hn
    · rw [upd_ne (Ne.symm hDh)]
      exact hL.f
    · rw [upd_same, take_succ he]
      unfold tms pst
      rw [List.map_append, List.map_append, List.map_append]
      rfl
  · rintro H' ⟨hL, hp⟩
    rw [hlen, List.take_length] at hp
    refine ⟨hL.f, ?_⟩
    have s2 := hL.un hM1.at_
    have hp2 : upd H' h (.dK (toD Sum.inl hg M)) D = some (.lst ((tms (pst M)).map V.int)) := by rw [upd_ne hDh]; exact hp
    have hq2 := s2 _ _ hq
    refine ⟨q, D, [.int fl], (tms (pst M)).map V.int, rfl, rfl, hq2, hp2, szle (by unfold tms pst; rw [List.length_map, List.length_map, List.length_map]; show 1 + _ ≤ _; omega), fun z nz => ?_⟩
    have s3 := s2.trans (same_new (o := .lst ([.int fl] ++ (tms (pst M)).map V.int)) nz)
    exact ⟨z, fl :: tms (pst M), rfl, SqL.of upd_same, Nat.succ_pos _, fun m hm hle => h1 m _ (s1.trans s3) ⟨hm, hle⟩⟩
theorem lk_ints {n : Nat} {H : Hp} {p q : Addr} {xs : List Int} (hp : Li H p xs) (hq : Li H q xs) (hl : xs.length ≤ 3000) : Lk (n + 1) H (.ref p) (.ref q) := by
  refine .inr ⟨p, q, _, _, rfl, rfl, .inl ⟨hp, hq⟩, rfl, by rw [List.length_map]; exact hl, fun j x' y' a b => ?_⟩
  rw [a] at b
  have e := Option.some.inj b
  obtain ⟨z, _, rfl⟩ := mem_int a
  match n with
  | 0 => exact ⟨e, .int z⟩
  | n + 1 => exact .inl ⟨e, .int z⟩
theorem lk_sc {n : Nat} {H : Hp} {x : V} (h : Sc x) : Lk n H x x := by
  match n with
  | 0 => exact ⟨rfl, h⟩
  | n + 1 => exact .inl ⟨rfl, h⟩
theorem sc_oV (v : Option Int) : Sc (oV v) := by
  cases v with
  | none => exact .non
  | some i => exact .int i
/-- tuples of scalars -/
theorem lk_tup {n : Nat} {H : Hp} {p q : Addr} {xs : List V} (hp : H p = some (.tup xs)) (hq : H q = some (.tup xs)) (hl : xs.length ≤ 3000) (h : ∀ x ∈ xs, Sc x) : Lk (n + 1) H (.ref p) (.ref q) := by
  refine .inr ⟨p, q, _, _, rfl, rfl, .inr ⟨hp, hq⟩, rfl, hl, fun j x' y' a b => ?_⟩
  rw [a] at b
  have e := Option.some.inj b
  rw [← e]
  exact lk_sc (h _ (List.mem_of_getElem? a))
theorem lk_vs {n : Nat} {H : Hp} {p q : Addr} {as bs : List Addr} {L : List Ver} (hp : VsAt H p as L) (hq : VsAt H q bs L) (hl : L.length ≤ 3000) : Lk (n + 2) H (.ref p) (.ref q) := by
  refine .inr ⟨p, q, _, _, rfl, rfl, .inl ⟨hp.at_, hq.at_⟩, by rw [List.length_map, List.length_map, hp.len, hq.len], by rw [List.length_map, hp.len]; exact hl, fun j x' y' a b => ?_⟩
  obtain ⟨x, hx, rfl⟩ := mem_rf a
  obtain ⟨y, hy, rfl⟩ := mem_rf b
  obtain ⟨e, he, h1⟩ := hp.each j x hx
  obtain ⟨e', he', h2⟩ := hq.each j y hy
  rw [he] at he'
  have := Option.some.inj he'
  subst this
  exact lk_tup h1 h2 (by show 2 ≤ 3000; decide) fun z hz => by
    simp only [List.mem_cons, List.not_mem_nil, or_false] at hz
    rcases hz with rfl | rfl
    · exact .int _
    · exact sc_oV _
theorem lk_ol {n : Nat} {H : Hp} {p q : Addr} {as bs : List Addr} {O : List (Int × Int)} {ys : List Int} (hp : OL H p as O ys) (hq : OL H q bs O ys) (hl : ys.length ≤ 3000) : Lk (n + 2) H (.ref p) (.ref q) := by
  refine .inr ⟨p, q, _, _, rfl, rfl, .inl ⟨hp.at_, hq.at_⟩, by rw [List.length_map, List.length_map, hp.len, hq.len], by rw [List.length_map, hp.len]; exact hl, fun j x' y' a b => ?_⟩
  obtain ⟨x, hx, rfl⟩ := mem_rf a
  obtain ⟨y, hy, rfl⟩ := mem_rf b
  obtain ⟨e, he, h1⟩ := hp.each j x hx
  obtain ⟨e', he', h2⟩ := hq.each j y hy
  rw [he] at he'
  have := Option.some.inj he'
  subst this
  exact lk_tup h1 h2 (by show 2 ≤ 3000; decide) fun z hz => by
    simp only [List.mem_cons, List.not_mem_nil, or_false] at hz
    rcases hz with rfl | rfl <;> exact .int _
theorem lk_strs {n : Nat} {H : Hp} {p q : Addr} {ts : List Str} (hp : H p = some (.tup (ts.map V.str))) (hq : H q = some (.tup (ts.map V.str))) (hl : ts.length ≤ 3000) : Lk (n + 1) H (.ref p) (.ref q) := lk_tup hp hq (by rw [List.length_map]; exact hl) fun x hx => by
  obtain ⟨t, _, rfl⟩ := List.mem_map.mp hx
  exact .str t
theorem lk_ws {n : Nat} {H : Hp} {p q : Addr} {as bs : List Addr} {ws : Mp} (hp : WrAt H p as ws) (hq : WrAt H q bs ws) (hl : ws.length ≤ 3000) : Lk (n + 2) H (.ref p) (.ref q) := by
  refine .inr ⟨p, q, _, _, rfl, rfl, .inr ⟨hp.at_, hq.at_⟩, by rw [List.length_map, List.length_map, hp.len, hq.len], by rw [List.length_map, hp.len]; exact hl, fun j x' y' a b => ?_⟩
  obtain ⟨x, hx, rfl⟩ := mem_rf a
  obtain ⟨y, hy, rfl⟩ := mem_rf b
  obtain ⟨e, he, h1⟩ := hp.each j x hx
  obtain ⟨e', he', h2⟩ := hq.each j y hy
  rw [he] at he'
  have := Option.some.inj he'
  subst this
  exact lk_tup h1 h2 (by show 2 ≤ 3000; decide) fun z hz => by
    simp only [List.mem_cons, List.not_mem_nil, or_false] at hz
    rcases hz with rfl | rfl
    · exact .str _
    · exact sc_oV _
theorem lk_hd {n : Nat} {H : Hp} {p q : Addr} {h : Hd} (hp : HdAt H p h) (hq : HdAt H q h) (b1 : h.rs.length ≤ 30) (b2 : h.ws.length ≤ 30) : Lk (n + 3) H (.ref p) (.ref q) := by
  obtain ⟨r, w, as, h1, h2, h3⟩ := hp.ex
  obtain ⟨r', w', as', g1, g2, g3⟩ := hq.ex
  refine .inr ⟨p, q, _, _, rfl, rfl, .inr ⟨h1, g1⟩, rfl, by show 4 ≤ 3000; decide, fun j x' y' a b => ?_⟩
  match j, a, b with
  | 0, a, b =>
    have e1 := Option.some.inj a
    have e2 := Option.some.inj b
    rw [← e1, ← e2]
    exact lk_sc (.int _)
  | 1, a, b =>
    have e1 := Option.some.inj a
    have e2 := Option.some.inj b
    rw [← e1, ← e2]
    exact lk_sc (.int _)
  | 2, a, b =>
    have e1 := Option.some.inj a
    have e2 := Option.some.inj b
    rw [← e1, ← e2]
    exact lk_strs (n := n + 1) h2 g2 (by omega)
  | 3, a, b =>
    have e1 := Option.some.inj a
    have e2 := Option.some.inj b
    rw [← e1, ← e2]
    exact lk_ws h3 g3 (by omega)
  | (j + 4), a, _ => cases a
def sp__law_state_right (T : Env K mg) : Sp := fun vs H Q E => ∃ (a c v h o pl dh dO dr kA tA : Addr) (S : SS) (Z : PL) (ks : List Str) (ts : List Int), vs = [.ref a, .ref pl, .ref kA, .ref tA] ∧ StAt T H a c v h o S ∧ PlAt H pl dh dO dr Z ∧ S.p = Z.p ∧ S.O = Z.O ∧ pvt S.V = pvt Z.R ∧ (gkeys S.O).Nodup ∧ S.M.length ≤ 60 ∧ S.O.length ≤ 60 ∧ S.n ≤ 3000 ∧ H kA = some (.lst (ks.map V.str)) ∧ Li H tA ts ∧ ks.length = 4 ∧ ∀ H', Same H H' → Q (.bl true) H'
theorem ok__law_state_right (T : Env K mg) : FnOk P w K mg base (L2.CX P w) 6 T.a__law_state_right T.d__law_state_right ["state", "plain", "keys", "txns"] (sp__law_state_right T) := by
  refine T.F__law_state_right.okX sc__law_state_right (fun vs H Q E h => by obtain ⟨_, _, _, _, _, _, _, _, _, _, _, _, _, _, _, rfl, _⟩ := h; rfl) (fun cdv A outer s H vs Q E hr h => ?_)
  obtain ⟨a, c, v, h, o, pl, dh, dO, dr, kA, tA, S, Z, ks, ts, rfl, hS, hZ, hpe, hO, hV, hnd, hMl, hOl, hnl, hK, hT, hk, h1⟩ := h
  have hu64 := hu64_of hr
  have G__law_like := ok__law_like (P := P) (w := w) (base := base) T
  have G_State_all_held := ok_State_all_held (P := P) (w := w) (base := base) T
  have G_State_all_outcomes := ok_State_all_outcomes (P := P) (w := w) (base := base) T
  have G_State_floor := ok_State_floor (P := P) (w := w) (base := base) T
  have G_State_settled := ok_State_settled (P := P) (w := w) (base := base) T
  have G__law_settled := ok__law_settled (P := P) (w := w) (base := base) T
  have G_State_held := ok_State_held (P := P) (w := w) (base := base) T
  have G_State_outcome := ok_State_outcome (P := P) (w := w) (base := base) T
  have G_Cells_versions := ok_Cells_versions (P := P) (w := w) (base := base) T
  have G__law_like := G__law_like 3
  refine ⟨_, (pss_cons (ps_if (PW.pt (pw_or (pt_not (pt_val (pe_call G__law_like (hr.mono (by decide)) rfl T.g__law_like T.F__law_like.kp T.b__law_like .nil passL (pa_cons (pe_prop (pv 0) T.k_State.cl T.m_State_floor G_State_floor (hr.mono (by decide)) T.b_State_floor .nil passL rfl) (pa_cons (pe_ix ix_list (pv 1) pe_int (fun _ _ => rfl)) pa_nil))))) (pw_or1 (pt_not (pt_val (pe_call G__law_like (hr.mono (by decide)) rfl T.g__law_like T.F__law_like.kp T.b__law_like .nil passL (pa_cons (pe_prop (pv 0) T.k_State.cl T.m_State_settled G_State_settled (hr.mono (by decide)) T.b_State_settled .nil passL rfl) (pa_cons (pe_call G__law_settled (hr.mono (by decide)) rfl T.g__law_settled T.F__law_settled.kp T.b__law_settled .nil passL (pa_cons (pv 1) pa_nil)) pa_nil)))))))) (pss_one (ps_ret pe_bl)) pss_nil)
      (pss_cons (ps_for (passes_of rfl) rfl (pi_list (pv 3)) (pg_name (i := 4) sc__law_state_right.nd rfl (Or.inl rfl)) (pss_cons (ps_if (pt_not (pt_val (pe_call G__law_like (hr.mono (by decide)) rfl T.g__law_like T.F__law_like.kp T.b__law_like .nil passL (pa_cons (pe_meth (pv 0) T.k_State.cl T.m_State_held G_State_held (hr.mono (by decide)) T.b_State_held .nil passL (pa_cons (pv 4) pa_nil)) (pa_cons (pe_dget2 (hu_of hr) (pe_ix ix_list (pv 1) pe_int (fun _ _ => rfl)) (pv 4) pe_non ⟨rfl, rfl, rfl, rfl⟩) pa_nil))))) (pss_one (ps_ret pe_bl)) pss_nil)
      (pss_one (ps_if (pt_not (pt_val (pe_call G__law_like (hr.mono (by decide)) rfl T.g__law_like T.F__law_like.kp T.b__law_like .nil passL (pa_cons (pe_meth (pv 0) T.k_State.cl T.m_State_outcome G_State_outcome (hr.mono (by decide)) T.b_State_outcome .nil passL (pa_cons (pv 4) pa_nil)) (pa_cons (pe_dget2 (hu_of hr) (pe_ix ix_list (pv 1) pe_int (fun _ _ => rfl)) (pv 4) pe_non ⟨rfl, rfl, rfl, rfl⟩) pa_nil))))) (pss_one (ps_ret pe_bl)) pss_nil))))
      (pss_cons (ps_if (pt_not (pt_val (pe_call G__law_like (hr.mono (by decide)) rfl T.g__law_like T.F__law_like.kp T.b__law_like .nil passL (pa_cons (pe_meth0 (pv 0) T.k_State.cl T.m_State_all_held G_State_all_held (hr.mono (by decide)) T.b_State_all_held .nil passL) (pa_cons (pe_callB (call_sortedDI rfl) (by rfl) T.z_sorted (by decide +kernel) (pa_cons (pe_ix ix_list (pv 1) pe_int (fun _ _ => rfl)) pa_nil)) pa_nil))))) (pss_one (ps_ret pe_bl)) pss_nil)
      (pss_cons (ps_if (pt_not (pt_val (pe_call G__law_like (hr.mono (by decide)) rfl T.g__law_like T.F__law_like.kp T.b__law_like .nil passL (pa_cons (pe_meth0 (pv 0) T.k_State.cl T.m_State_all_outcomes G_State_all_outcomes (hr.mono (by decide)) T.b_State_all_outcomes .nil passL) (pa_cons (pe_lc (own := [("txn", 4)]) (by rfl) sc__law_state_right.nd (pi_list (pe_callB (call_sortedDI rfl) (by rfl) T.z_sorted (by decide +kernel) (pa_cons (pe_ix ix_list (pv 1) pe_int (fun _ _ => rfl)) pa_nil))) (blkOk_by (own := [("txn", 4)]) (N := ["state", "plain", "keys", "txns", "txn", "key"]) (sc := defScope s__law_state_right) (by decide +kernel)) (fun _ _ _ _ _ => (pg_name (i := 4) sc__law_state_right.nd rfl (Or.inl rfl))) (fun _ _ _ _ _ => pts_nil) (fun _ _ _ _ _ => (pe_tup (pa_cons (pv 4) (pa_cons (pe_dget (hu_of hr) (pe_ix (ixK (K := K) (r := rIxL) rfl ix_list) (pv 1) pe_int (fun _ _ => rfl)) (pv 4) (fun _ _ => rfl)) pa_nil))))) pa_nil))))) (pss_one (ps_ret pe_bl)) pss_nil)
      (pss_one (ps_ret (pe_callB (cr_all rfl) (by rfl) T.z_all (by decide +kernel) (pa_cons (pe_lc (own := [("key", 5)]) (by rfl) sc__law_state_right.nd (pi_list (pv 2)) (blkOk_by (own := [("key", 5)]) (N := ["state", "plain", "keys", "txns", "txn", "key"]) (sc := defScope s__law_state_right) (by decide +kernel)) (fun _ _ _ _ _ => (pg_name (i := 5) sc__law_state_right.nd rfl (Or.inl rfl))) (fun _ _ _ _ _ => pts_nil) (fun _ _ _ _ _ => (pe_call G__law_like (hr.mono (by decide)) rfl T.g__law_like T.F__law_like.kp T.b__law_like .nil passL (pa_cons (pe_meth (pe_fldK (K := K) rfl (pv 0) rfl) T.k_Cells.cl T.m_Cells_versions G_Cells_versions (hr.mono (by decide)) T.b_Cells_versions .nil passL (pa_cons (pv 5) pa_nil)) (pa_cons (pe_dget2 (hu_of hr) (pe_ix (ixK (K := K) (r := rIxL) rfl ix_list) (pv 1) pe_int (fun _ _ => rfl)) (pv 5) (pe_lst pa_nil) ⟨rfl, rfl, rfl, rfl⟩) pa_nil))))) pa_nil)))))))), ?_⟩
  have hfl : S.fl = Z.fl := congrArg PS.fl hpe
  have hpm : pst S.M = pst Z.M := congrArg PS.held hpe
  have hMl2 : Z.M.length ≤ 60 := by
    have := congrArg List.length hpm
    unfold pst at this
    rw [List.length_map, List.length_map] at this
    omega
  obtain ⟨dx, ha⟩ := id hS.ob
  refine ⟨_, rfl, a, _, _, rfl, ha, a, c, h, o, S.fl, rfl, hS.ob, _, rfl, pl, _, _, .int Z.fl, rfl, rfl, SqL.of hZ.at_, atI_nat (j := 0) rfl, .int S.fl, .int Z.fl, rfl, by rw [hfl]; exact lk_sc (.int _), fun H1 s1 => ⟨_, rfl, ifF rfl ?_⟩⟩
  have hS1 := hS.same s1
  have hZ1 := hZ.same s1
  refine ⟨_, rfl, a, _, _, rfl, s1 _ _ ha, a, c, h, o, S.fl, S.M, rfl, hS1.ob, hS1.he, hMl, fun m1 H2 s2 hm1 => ?_⟩
  have hZ2 := hZ1.same s2
  refine ⟨_, rfl, pl, dh, dO, dr, Z.fl, Z.M, rfl, hZ2.at_, hZ2.he, hMl2, fun m2 H3 s3 hm2 => ?_⟩
  have em : m1 = m2 := hm1.eq (by rw [hfl, hpm]; exact hm2)
  refine ⟨.int m1, .int m2, rfl, by rw [em]; exact lk_sc (.int _), fun H4 s4 => ⟨_, rfl, ifF rfl ?_⟩⟩
  have s14 := ((s1.trans s2).trans s3).trans s4
  refine ⟨_, rfl, tA, rfl, ⟨_, SqL.of (s14 _ _ hT)⟩, ?_⟩
  refine for_list (K := K) (a := tA) (xs := ts.map V.int) (fun i σ H' => ∃ v4 v5, σ = [some (.ref a), some (.ref pl), some (.ref kA), some (.ref tA), v4, v5] ∧ Same H H') ⟨none, none, rfl, s14⟩ (fun i σ H' _ ⟨_, _, _, s⟩ => SqL.of (s _ _ hT)) ?_ ?_
  · rintro i x σ H5 hx ⟨v4, v5, rfl, s5⟩
    obtain ⟨t, ht, rfl⟩ := mem_int hx
    have hS5 := hS.same s5
    have hZ5 := hZ.same s5
    have ha5 := s5 _ _ ha
    refine ⟨_, rfl, a, _, _, rfl, ha5, stf_no _ _ _ _ (by decide +kernel) (by decide +kernel) (by decide +kernel) (by decide +kernel), _, rfl, a, c, h, o, S.fl, S.M, t, rfl, hS5.ob, hS5.he, ?_⟩
    refine ⟨_, rfl, pl, _, _, _, rfl, rfl, SqL.of hZ5.at_, atI_nat (j := 1) rfl, dh, rfl, .inl ⟨_, .inl hZ5.he.at_⟩, _, rfl, _, dgetI hZ5.he.at_ t, ?_⟩
    have hl : Lk 3 H5 (((gget S.M t).map hg).getD .non) (((gget Z.M t).map hg).getD .non) := by
      have e := congrArg (fun P => gget P t) hpm
      have e : gget (pst S.M) t = gget (pst Z.M) t := e
      rw [pst_get, pst_get] at e
      cases q : gget S.M t with
      | none =>
        rw [q] at e
        cases q2 : gget Z.M t with
        | none => exact lk_sc .non
        | some f => rw [q2] at e; cases e
      | some f =>
        rw [q] at e
        cases q2 : gget Z.M t with
        | none => rw [q2] at e; cases e
        | some f2 =>
          rw [q2] at e
          have e : f.2 = f2.2 := Option.some.inj e
          have hm := gget_some q
          have h1 : HdAt H5 f.1 f.2 := hS5.he.each _ hm
          have h2 : HdAt H5 f2.1 f2.2 := hZ5.he.each _ (gget_some q2)
          rw [← e] at h2
          exact lk_hd (n := 0) h1 h2 (hS.bd _ hm).1 (hS.bd _ hm).2
    refine ⟨_, _, rfl, hl, fun H6 s6 => ⟨_, rfl, ifF rfl ?_⟩⟩
    have s56 := s5.trans s6
    have hS6 := hS.same s56
    have hZ6 := hZ.same s56
    have ha6 := s56 _ _ ha
    refine ⟨_, rfl, a, _, _, rfl, ha6, stf_no _ _ _ _ (by decide +kernel) (by decide +kernel) (by decide +kernel) (by decide +kernel), _, rfl, a, c, h, o, S.fl, S.O, t, rfl, hS6.ob, hS6.ou, ?_⟩
    refine ⟨_, rfl, pl, _, _, _, rfl, rfl, SqL.of hZ6.at_, atI_nat (j := 2) rfl, dO, rfl, .inl ⟨_, .inl hZ6.ou⟩, _, rfl, _, dgetI hZ6.ou t, ?_⟩
    refine ⟨_, _, rfl, ?_, fun H7 s7 => ⟨_, rfl, ifF rfl ?_⟩⟩
    · rw [hO]
      cases gget Z.O t with
      | none => exact lk_sc .non
      | some f => exact lk_sc (.int f)
    · exact ⟨_, _, rfl, s56.trans s7⟩
  · rintro σ H5 ⟨v4, v5, rfl, s5⟩
    have hS5 := hS.same s5
    have hZ5 := hZ.same s5
    have ha5 := s5 _ _ ha
    refine ⟨_, rfl, a, _, _, rfl, ha5, stf_no _ _ _ _ (by decide +kernel) (by decide +kernel) (by decide +kernel) (by decide +kernel), a, c, h, o, S.fl, S.M, rfl, hS5.ob, hS5.he, hMl, fun p1 ys1 H6 s6 np1 hs1 hp1 => ?_⟩
    have hZ6 := hZ5.same s6
    refine ⟨_, rfl, pl, _, _, _, rfl, rfl, SqL.of hZ6.at_, atI_nat (j := 1) rfl, dh, _, gkeys Z.M, rfl, .inl hZ6.he.at_, keysI _, (by unfold gkeys; rw [List.length_map]; omega), fun ys2 p2 hp2 hs2 np2 => ?_⟩
    have ey : ys1 = ys2 := SrtI.eq hs1 (by
      rw [show gkeys S.M = gkeys Z.M by rw [← pst_keys, ← pst_keys, hpm]]
      exact ⟨hp2, hs2⟩)
    have s7 := same_new (o := .lst (ys2.map V.int)) np2
    have hyl := srt_len hs1
    refine ⟨.ref p1, .ref p2, rfl, lk_ints (n := 2) (s7 _ _ hp1) (by rw [ey]; exact upd_same) (by omega), fun H8 s8 => ⟨_, rfl, ifF rfl ?_⟩⟩
    have s58 := ((s5.trans s6).trans s7).trans s8
    have hS8 := hS.same s58
    have hZ8 := hZ.same s58
    have ha8 := s58 _ _ ha
    refine ⟨_, rfl, a, _, _, rfl, ha8, stf_no _ _ _ _ (by decide +kernel) (by decide +kernel) (by decide +kernel) (by decide +kernel), a, c, h, o, S.fl, S.O, rfl, hS8.ob, hS8.ou, hOl, hnd, fun p3 as3 ys3 H9 s9 np3 hs3 hL3 => ?_⟩
    have hZ9 := hZ8.same s9
    refine ⟨_, rfl, pl, _, _, _, rfl, rfl, SqL.of hZ9.at_, atI_nat (j := 2) rfl, dO, _, gkeys Z.O, rfl, .inl hZ9.ou, keysI' _ _, (by rw [← hO]; unfold gkeys; rw [List.length_map]; omega), fun ys4 p4 hp4 hs4 np4 => ⟨p4, rfl, ⟨_, SqL.of upd_same⟩, fun D hD => ?_⟩⟩
    have ey4 : ys3 = ys4 := SrtI.eq hs3 (by rw [hO]; exact ⟨hp4, hs4⟩)
    subst ey4
    have s10 := same_new (o := .lst (ys3.map V.int)) np4
    have hp10 := upd_same (H := H9) (a := p4) (o := HO.lst (ys3.map V.int))
    generalize upd H9 p4 (.lst (ys3.map V.int)) = H10 at s10 hp10 hD
    have hyl3 : ys3.length ≤ 60 := by
      rw [hs3.1.length_eq]
      unfold gkeys
      rw [List.length_map]
      exact hOl
    refine lc_list (K := K) (a := p4) (xs := ys3.map V.int) (fun i H' => Same H10 H' ∧ ∃ as, OL H' D as S.O (ys3.take i)) ⟨same_new hD, [], upd_same, rfl, fun j a h => by simp at h⟩ (fun i H' _ h => SqL.of (h.1 _ _ hp10)) ?_ ?_
    · rintro i x H' hx ⟨sB, as, hL⟩
      obtain ⟨y, hy, rfl⟩ := mem_int hx
      have hi : i < ys3.length := (List.getElem?_eq_some_iff.mp hy).1
      have hym : y ∈ gkeys S.O := hs3.1.mem_iff.mp (List.mem_of_getElem? hy)
      obtain ⟨e, he⟩ : ∃ e, gget S.O y = some e := by
        cases q : gget S.O y with
        | none => exact absurd hym (gget_none.mp q)
        | some e => exact ⟨e, rfl⟩
      have hZ' := (hZ9.same s10).same sB
      refine ⟨rfl, yes_if ⟨_, rfl, _, rfl, pl, _, _, _, rfl, rfl, SqL.of hZ'.at_, atI_nat (j := 2) rfl, _, rfl, dO, .int e, rfl, (by have := dgetI hZ'.ou y; rw [← hO, he] at this; exact this), (by show 2 ≤ sizeLine; decide), fun z nz => ?_⟩⟩
      have sz := same_new (o := .tup [.int y, .int e]) nz
      refine ⟨_, sz _ _ hL.at_, szl (by rw [List.length_map, hL.len, List.length_take]; omega), same_mut (sB.trans sz) hD, as ++ [z], ?_⟩
      rw [take_succ hy]
      exact hL.push sz (by rw [upd_same, he]; rfl)
    rintro H11 ⟨s11, as4, hL4⟩
    rw [List.length_map, List.take_length] at hL4
    have s911 := s10.trans s11
    refine ⟨.ref p3, .ref D, rfl, lk_ol (n := 1) (hL3.same s911) hL4 (by omega), fun H12 s12 => ⟨_, rfl, ifF rfl ?_⟩⟩
    have sE := (s58.trans s9).trans (s911.trans s12)
    refine ⟨_, rfl, kA, rfl, ⟨_, SqL.of (sE _ _ hK)⟩, fun G hG => ?_⟩
    refine lc_list (K := K) (a := kA) (xs := ks.map V.str) (fun i H' => Same H12 H' ∧ H' G = some (.lst ((List.replicate i true).map V.bl))) ⟨same_new hG, upd_same⟩ (fun i H' _ h => SqL.of (h.1 _ _ (sE _ _ hK))) ?_ ?_
    · rintro i x H' hx ⟨sB, hp⟩
      obtain ⟨k, hkk, rfl⟩ := mem_str hx
      have hi : i < ks.length := (List.getElem?_eq_some_iff.mp hkk).1
      have sF := sE.trans sB
      have hS' := hS.same sF
      have hZ' := hZ.same sF
      obtain ⟨dc, hc⟩ := id hS'.ce.ob
      obtain ⟨dx', ha'⟩ := id hS'.ob
      refine ⟨rfl, yes_if ?_⟩
      refine ⟨_, rfl, a, _, _, _, _, rfl, ha', T.k_State.cl, T.n_State_cells, stf_cells _ _ _ _, c, _, _, rfl, hc, cef_no _ (by decide +kernel), _, rfl, c, v, S.V, S.n, k, rfl, hS'.ce, fun p5 as5 H13 s13 hV5 => ?_⟩
      have hZ13 := hZ'.same s13
      refine ⟨_, rfl, pl, _, _, _, rfl, rfl, SqL.of hZ13.at_, atI_nat (j := 3) rfl, dr, rfl, .inl ⟨_, .inl hZ13.ro.at_⟩, _, rfl, Nat.zero_le _, fun l nl => ?_⟩
      have sl := same_new (o := .lst []) nl
      refine ⟨_, dgetS (sl _ _ hZ13.ro.at_) k, ?_⟩
      have hlk : Lk 3 (upd H13 l (.lst [])) (.ref p5) (((gget Z.R k).map vg).getD (.ref l)) := by
        have e := congrArg (fun P => gget P k) hV
        have e : gget (pvt S.V) k = gget (pvt Z.R) k := e
        have hlen : ((gget (pvt S.V) k).getD []).length ≤ 3000 := by
          rw [pvt_get]
          cases q : gget S.V k with
          | none => exact Nat.zero_le _
          | some f =>
            obtain ⟨_, _, _, h3⟩ := hS.ce.vs _ (gget_some q)
            exact Nat.le_trans h3 hnl
        have h5 := hV5.same sl
        rw [e, pvt_get] at h5
        rw [e, pvt_get] at hlen
        cases q : gget Z.R k with
        | none =>
          rw [q] at h5
          have h6 : VsAt (upd H13 l (.lst [])) l [] [] := ⟨upd_same, rfl, fun j b hj => by simp at hj⟩
          exact lk_vs (n := 1) (L := []) h5 h6 (Nat.zero_le _)
        | some f =>
          rw [q] at h5 hlen
          obtain ⟨as6, g1, g2⟩ := hZ13.ro.each _ (gget_some q)
          exact lk_vs (n := 1) h5 (g1.same sl) hlen
      refine ⟨_, _, rfl, hlk, fun H14 s14 => ⟨_, s14 _ _ (sl _ _ (s13 _ _ hp)), szl (by rw [List.length_map, List.length_replicate]; omega), same_mut (sB.trans ((s13.trans sl).trans s14)) hG, ?_⟩⟩
      rw [upd_same, List.replicate_succ', List.map_append]
      rfl
    · rintro H' ⟨sB, hp⟩
      exact ⟨G, _, rfl, SqL.of hp, by rw [all_true]; exact h1 _ (sE.trans sB)⟩

--PART /work/steering/wip/parts/sv19.lean
theorem nO_nodup {p : PS} {O : List (Int × Int)} {r : Rec} (h : (gkeys O).Nodup) (e : p.outs = gkeys O) : (gkeys (nO p O r)).Nodup := by
  cases r with
  | floor t => exact h
  | prep x t ld rs ws => exact h
  | dec d x t =>
    show (gkeys (if okR p (.dec d x t) = true then O ++ [(x, t)] else O)).Nodup
    by_cases c : okR p (.dec d x t) = true
    · rw [if_pos c]
      have hx : x ∉ gkeys O := fun q => by
        have : step p (.dec d x t) = p := if_pos (by rw [e]; exact q)
        rw [okR_no this] at c
        cases c
      unfold gkeys
      rw [List.map_append]
      exact List.nodup_append.mpr ⟨h, by simp, fun y hy z hz => by
        have : z = x := by simpa using hz
        rw [this]
        exact fun q => hx (q ▸ hy)⟩
    · rw [if_neg c]
      exact h
theorem step_idem (p : PS) (r : Rec) : step (step p r) r = step p r := by
  have no : step p r = p → step (step p r) r = step p r := fun e => by rw [e, e]
  cases r with
  | floor t =>
    by_cases c : t ≤ p.fl
    · exact no (if_pos c)
    · have e : step p (.floor t) = { p with fl := t } := if_neg c
      rw [e]
      exact if_pos (Int.le_refl _)
  | prep x t ld rs ws =>
    by_cases c1 : x ∈ gkeys p.held
    · exact no (if_pos c1)
    by_cases c2 : x ∈ p.outs
    · exact no ((if_neg c1).trans (if_pos c2))
    by_cases c3 : t ≤ p.fl
    · exact no ((if_neg c1).trans ((if_neg c2).trans (if_pos c3)))
    by_cases c4 : (p.held.any fun e => meets rs ws e.2) = true
    · exact no ((if_neg c1).trans ((if_neg c2).trans ((if_neg c3).trans (if_pos c4))))
    · have e : step p (.prep x t ld rs ws) = ⟨t, p.held ++ [(x, ⟨t, ld, rs, ws⟩)], p.outs⟩ := (if_neg c1).trans ((if_neg c2).trans ((if_neg c3).trans (if_neg c4)))
      rw [e]
      refine if_pos ?_
      show x ∈ gkeys (p.held ++ [(x, (⟨t, ld, rs, ws⟩ : Hd))])
      unfold gkeys
      rw [List.map_append]
      exact List.mem_append_right _ (by simp)
  | dec d x t =>
    by_cases c1 : x ∈ p.outs
    · exact no (if_pos c1)
    have fin : ∀ fl held, step p (.dec d x t) = ⟨fl, held, p.outs ++ [x]⟩ → step (step p (.dec d x t)) (.dec d x t) = step p (.dec d x t) := fun fl held e => by
      rw [e]
      exact if_pos (List.mem_append_right _ (by simp))
    by_cases c2 : t > 0
    · cases q : gget p.held x with
      | none =>
        refine no ((if_neg c1).trans ((if_pos c2).trans ?_))
        rw [q]
      | some h =>
        by_cases c3 : h.t > t
        · refine no ((if_neg c1).trans ((if_pos c2).trans ?_))
          rw [q]
          exact if_pos c3
        · refine fin (if t > p.fl then t else p.fl) (gdrop p.held x) ((if_neg c1).trans ((if_pos c2).trans ?_))
          rw [q]
          exact if_neg c3
    · exact fin p.fl (gdrop p.held x) ((if_neg c1).trans (if_neg c2))
structure FS where
  p : PS
  O : List (Int × Int)
  R : Vers
noncomputable def fstep (F : FS) (r : Rec) : FS := ⟨step F.p r, nO F.p F.O r, nV F.p F.R r⟩
noncomputable def fof (rs : List Rec) : FS := rs.foldl fstep ⟨⟨0, [], []⟩, [], []⟩
def SS.f (S : SS) : FS := ⟨S.p, S.O, pvt S.V⟩
def PL.f (Z : PL) : FS := ⟨Z.p, Z.O, pvt Z.R⟩
theorem Post.f {T : Env K mg} {H H' : Hp} {a c v h o : Addr} {S S' : SS} {r : Rec} {b : Bool} (x : Post T H H' a c v h o S S' r b) : S'.f = fstep S.f r := by
  show (⟨S'.p, S'.O, pvt S'.V⟩ : FS) = ⟨step S.p r, nO S.p S.O r, nV S.p (pvt S.V) r⟩
  rw [x.pr, x.no, x.nv]
theorem PPost.f {H H' : Hp} {pl dh dO dr : Addr} {Z Z' : PL} {r : Rec} {b : Bool} (x : PPost H H' pl dh dO dr Z Z' r b) : Z'.f = fstep Z.f r := by
  show (⟨Z'.p, Z'.O, pvt Z'.R⟩ : FS) = ⟨step Z.p r, nO Z.p Z.O r, nV Z.p (pvt Z.R) r⟩
  rw [x.pr, x.no, x.nv]
theorem fstep_idem (F : FS) (r : Rec) : fstep (fstep F r) r = fstep F r := by
  have e := okR_no (step_idem F.p r)
  show (⟨step (step F.p r) r, nO (step F.p r) (nO F.p F.O r) r, nV (step F.p r) (nV F.p F.R r) r⟩ : FS) = ⟨step F.p r, nO F.p F.O r, nV F.p F.R r⟩
  rw [step_idem]
  cases r with
  | floor t => rfl
  | prep x t ld rs ws => rfl
  | dec d x t =>
    have e1 : nO (step F.p (.dec d x t)) (nO F.p F.O (.dec d x t)) (.dec d x t) = nO F.p F.O (.dec d x t) := if_neg (by rw [e]; decide)
    have e2 : nV (step F.p (.dec d x t)) (nV F.p F.R (.dec d x t)) (.dec d x t) = nV F.p F.R (.dec d x t) := if_neg (by rw [e]; decide)
    rw [e1, e2]
theorem fof_snoc (rs : List Rec) (r : Rec) : fof (rs ++ [r]) = fstep (fof rs) r := by
  unfold fof
  rw [List.foldl_append]
  rfl
def dbl (rs : List Rec) : List Rec := rs.flatMap fun r => [r, r]
theorem dbl_snoc (rs : List Rec) (r : Rec) : dbl (rs ++ [r]) = dbl rs ++ [r, r] := by
  unfold dbl
  rw [List.flatMap_append]
  rfl
theorem dbl_len (rs : List Rec) : (dbl rs).length = 2 * rs.length := by
  induction rs with
  | nil => rfl
  | cons r t ih =>
    show (r :: r :: dbl t).length = _
    rw [List.length_cons, List.length_cons, ih, List.length_cons]
    omega
theorem fold_dbl : ∀ (rs : List Rec) (F : FS), (dbl rs).foldl fstep F = rs.foldl fstep F
  | [], _ => rfl
  | r :: t, F => by
    show (dbl t).foldl fstep (fstep (fstep F r) r) = t.foldl fstep (fstep F r)
    rw [fstep_idem, fold_dbl t]
theorem fof_dbl (rs : List Rec) : fof (dbl rs) = fof rs := fold_dbl rs _
theorem fold_dbl_take : ∀ (rs : List Rec) (F : FS) (j : Nat), ∃ m, ((dbl rs).take j).foldl fstep F = (rs.take m).foldl fstep F
  | [], F, j => ⟨0, by show (List.take j []).foldl fstep F = F; rw [List.take_nil]; rfl⟩
  | r :: t, F, 0 => ⟨0, rfl⟩
  | r :: t, F, 1 => ⟨1, by
    show fstep F r = (r :: t.take 0).foldl fstep F
    rw [List.take_zero]
    rfl⟩
  | r :: t, F, j + 2 => by
    obtain ⟨m, hm⟩ := fold_dbl_take t (fstep F r) j
    refine ⟨m + 1, ?_⟩
    show ((dbl t).take j).foldl fstep (fstep (fstep F r) r) = (t.take m).foldl fstep (fstep F r)
    rw [fstep_idem, hm]
theorem step_held (p : PS) (r : Rec) : (step p r).held.length ≤ p.held.length + 1 := by
  cases r with
  | floor t =>
    show (if t ≤ p.fl then p else { p with fl := t }).held.length ≤ _
    split <;> exact Nat.le_succ _
  | prep x t ld rs ws =>
    show (if x ∈ gkeys p.held then p else if x ∈ p.outs then p else if t ≤ p.fl then p else if (p.held.any fun e => meets rs ws e.2) = true then p else ⟨t, p.held ++ [(x, ⟨t, ld, rs, ws⟩)], p.outs⟩).held.length ≤ _
    split
    · exact Nat.le_succ _
    · split
      · exact Nat.le_succ _
      · split
        · exact Nat.le_succ _
        · split
          · exact Nat.le_succ _
          · show (p.held ++ [_]).length ≤ _
            rw [List.length_append]
            exact Nat.le_refl _
  | dec d x t =>
    have hd := gdrop_len p.held x
    show (if x ∈ p.outs then p else if t > 0 then (match gget p.held x with
      | none => p
      | some h => if h.t > t then p else ⟨if t > p.fl then t else p.fl, gdrop p.held x, p.outs ++ [x]⟩) else ⟨p.fl, gdrop p.held x, p.outs ++ [x]⟩).held.length ≤ _
    split
    · exact Nat.le_succ _
    · split
      · split
        · exact Nat.le_succ _
        · split
          · exact Nat.le_succ _
          · show (gdrop p.held x).length ≤ _
            omega
      · show (gdrop p.held x).length ≤ _
        omega
theorem fold_held : ∀ (rs : List Rec) (F : FS), (rs.foldl fstep F).p.held.length ≤ F.p.held.length + rs.length
  | [], _ => Nat.le_refl _
  | r :: t, F => by
    have h1 := fold_held t (fstep F r)
    have h2 : (fstep F r).p.held.length ≤ F.p.held.length + 1 := step_held F.p r
    show (t.foldl fstep (fstep F r)).p.held.length ≤ _
    rw [List.length_cons]
    omega
theorem fof_held (rs : List Rec) (j : Nat) : (fof (rs.take j)).p.held.length ≤ rs.length := by
  have h := fold_held (rs.take j) ⟨⟨0, [], []⟩, [], []⟩
  have h2 : (rs.take j).length ≤ rs.length := by rw [List.length_take]; omega
  have h3 : (fof (rs.take j)).p.held.length ≤ 0 + (rs.take j).length := h
  omega
theorem fof_held_dbl (rs : List Rec) (j : Nat) : (fof ((dbl rs).take j)).p.held.length ≤ rs.length := by
  obtain ⟨m, hm⟩ := fold_dbl_take rs ⟨⟨0, [], []⟩, [], []⟩ j
  have : fof ((dbl rs).take j) = fof (rs.take m) := hm
  rw [this]
  exact fof_held rs m
/-- records in a list -/
structure RL (H : Hp) (p : Addr) (as : List Addr) (rs : List Rec) : Prop where
  at_ : H p = some (.lst (as.map V.ref))
  len : as.length = rs.length
  each : ∀ (j : Nat) (a : Addr), as[j]? = some a → ∃ r, rs[j]? = some r ∧ RecAt H a r
theorem RL.to {H H' : Hp} {p p' : Addr} {as : List Addr} {rs : List Rec} (h : RL H p as rs) (t : Tp H H') (hp : H' p' = some (.lst (as.map V.ref))) : RL H' p' as rs := ⟨hp, h.len, fun j a e => by
  obtain ⟨r, h1, h2⟩ := h.each j a e
  exact ⟨r, h1, h2.tp t⟩⟩
theorem RL.same {H H' : Hp} {p : Addr} {as : List Addr} {rs : List Rec} (h : RL H p as rs) (s : Same H H') : RL H' p as rs := h.to (Same.tp s) (s _ _ h.at_)
theorem RL.snoc {H H' : Hp} {p p' x : Addr} {as : List Addr} {rs : List Rec} {r : Rec} (h : RL H p as rs) (t : Tp H H') (hx : RecAt H' x r) (hp : H' p' = some (.lst ((as ++ [x]).map V.ref))) : RL H' p' (as ++ [x]) (rs ++ [r]) := by
  refine ⟨hp, by rw [List.length_append, List.length_append, h.len]; rfl, fun j b hj => ?_⟩
  by_cases c : j < as.length
  · rw [List.getElem?_append_left c] at hj
    obtain ⟨e, g2, g3⟩ := h.each j b hj
    exact ⟨e, by rw [List.getElem?_append_left (by rw [← h.len]; exact c)]; exact g2, g3.tp t⟩
  · have hj2 : j = as.length := by
      have := (List.getElem?_eq_some_iff.mp hj).1
      rw [List.length_append] at this
      have : j < as.length + 1 := this
      omega
    subst hj2
    rw [List.getElem?_append_right (Nat.le_refl _), Nat.sub_self] at hj
    have eb : x = b := Option.some.inj hj
    subst eb
    exact ⟨r, by rw [h.len, List.getElem?_append_right (Nat.le_refl _), Nat.sub_self]; rfl, hx⟩
theorem StAt.chg {T : Env K mg} {H H' : Hp} {a c v h o q : Addr} {S : SS} {xs} (x : StAt T H a c v h o S) (k : ∀ b u, H b = some u → b ≠ q → H' b = some u) (hq : H q = some (.lst xs)) (n : ∀ e ∈ S.V, e.2.1 ≠ q) : StAt T H' a c v h o S := by
  have kg : ∀ {b : Addr} {u : HO}, H b = some u → (∀ ys, u ≠ .lst ys) → H' b = some u := fun hb hu => k _ _ hb fun w => by
    rw [w, hq] at hb
    exact hu _ (Option.some.inj hb).symm
  have tp : Tp H H' := fun b ys hb => kg hb fun _ q => by cases q
  obtain ⟨dx, ha⟩ := x.ob
  obtain ⟨dc, hc⟩ := x.ce.ob
  refine ⟨⟨dx, kg ha (fun _ q => by cases q)⟩, ⟨kg x.he.at_ (fun _ q => by cases q), x.he.nd, fun e he => (x.he.each e he).same tp⟩, kg x.ou (fun _ q => by cases q), ⟨⟨dc, kg hc (fun _ q => by cases q)⟩, kg x.ce.at_ (fun _ q => by cases q), x.ce.nd, x.ce.ad, fun e he => ?_⟩, x.ho, x.hv, x.ov, x.ca, x.bd⟩
  obtain ⟨as, g1, g2, g3⟩ := x.ce.vs e he
  exact ⟨as, g1.frame k (n e he) (fun ys w => by
    rw [hq] at w
    cases w), g2, g3⟩
theorem PlAt.chg {H H' : Hp} {pl dh dO dr q : Addr} {Z : PL} {xs} (y : PlAt H pl dh dO dr Z) (k : ∀ b u, H b = some u → b ≠ q → H' b = some u) (hq : H q = some (.lst xs)) (n1 : pl ≠ q) (n : ∀ e ∈ Z.R, e.2.1 ≠ q) : PlAt H' pl dh dO dr Z := by
  have kg : ∀ {b : Addr} {u : HO}, H b = some u → (∀ ys, u ≠ .lst ys) → H' b = some u := fun hb hu => k _ _ hb fun w => by
    rw [w, hq] at hb
    exact hu _ (Option.some.inj hb).symm
  have tp : Tp H H' := fun b ys hb => kg hb fun _ q => by cases q
  refine ⟨k _ _ y.at_ n1, ⟨kg y.he.at_ (fun _ q => by cases q), y.he.nd, fun e he => (y.he.each e he).same tp⟩, kg y.ou (fun _ q => by cases q), ⟨kg y.ro.at_ (fun _ q => by cases q), fun e he => ?_⟩, y.ho, y.hr, y.or, y.pr, y.bd⟩
  obtain ⟨as, g1, g2⟩ := y.ro.each e he
  exact ⟨as, g1.frame k (n e he) (fun ys w => by
    rw [hq] at w
    cases w), g2⟩
def sp_state_of (T : Env K mg) : Sp := fun vs H Q E => ∃ (p : Addr) (as : List Addr) (rs : List Rec), vs = [.ref p] ∧ RL H p as rs ∧ (∀ r ∈ rs, recOk r) ∧ rs.length ≤ 82 ∧ (∀ j, (fof (rs.take j)).p.held.length ≤ 50) ∧
  ∀ a c v h o S H', Same H H' → StAt T H' a c v h o S → S.f = fof rs → S.n ≤ 30 * rs.length → (∀ e ∈ S.V, H e.2.1 = none) → (gkeys S.O).Nodup → Q (.ref a) H'
theorem ok_state_of (T : Env K mg) : FnOk P w K mg base (L2.CX P w) 5 T.a_state_of T.d_state_of ["records"] (sp_state_of T) := by
  refine T.F_state_of.okX sc_state_of (fun vs H Q E h => by obtain ⟨_, _, _, rfl, _⟩ := h; rfl) (fun cdv A outer s H vs Q E hr h => ?_)
  obtain ⟨p, as, rs, rfl, hR, hok, hl, hh, h1⟩ := h
  have hu64 := hu64_of hr
  have G_State_init := ok_State_init (P := P) (w := w) (base := base) T
  have G_State_apply := ok_State_apply (P := P) (w := w) (base := base) T
  refine ⟨_, (pss_cons (ps_set (i := 1) sc_state_of.nd rfl (Or.inl rfl) (pe_make0 T.M_State G_State_init (hr.mono (by decide)) rfl T.k_State.mgC T.b_State_init .nil passL))
      (pss_cons (ps_for (passes_of rfl) rfl (pi_list (pv 0)) (pg_name (i := 2) sc_state_of.nd rfl (Or.inl rfl)) (pss_one (ps_expr (pe_meth (pv 1) T.k_State.cl T.m_State_apply G_State_apply (hr.mono (by decide)) T.b_State_apply .nil passL (pa_cons (pv 2) pa_nil)))))
      (pss_one (ps_ret (pv 1))))), ?_⟩
  intro a dxa na ndx nex
  refine ⟨a, dxa, rfl, upd_same, fun c v h o H2 nc nv nh no hSt hk2 => ⟨rfl, ?_⟩⟩
  have n0 : ∀ {x : Addr}, upd (upd H dxa (.own a)) a (.ins T.a_State dxa []) x = none → H x = none := fun {x} hx => by
    have n1 : x ≠ a := fun w => by
      rw [w, upd_same] at hx
      cases hx
    have n2 : x ≠ dxa := fun w => by
      rw [upd_ne n1, w, upd_same] at hx
      cases hx
    rw [upd_ne n1, upd_ne n2] at hx
    exact hx
  have Bh := n0 nh
  have Bo := n0 no
  have Bv := n0 nv
  have s2 : Same H H2 := fun b u hb => hk2 b u (by rw [upd_ne (ne_of_none hb na), upd_ne (ne_of_none hb ndx)]; exact hb) (ne_of_none hb na)
  refine ⟨_, rfl, p, rfl, ⟨_, SqL.of (s2 _ _ hR.at_)⟩, ?_⟩
  refine for_list (K := K) (a := p) (xs := as.map V.ref) (fun i σ HX => ∃ v2, ∃ S : SS, σ = [some (.ref p), some (.ref a), v2] ∧ Same H HX ∧ StAt T HX a c v h o S ∧ S.f = fof (rs.take i) ∧ Good S.p S.V ∧ (∀ e ∈ S.V, H e.2.1 = none) ∧ S.n ≤ 30 * i ∧ S.V.length ≤ 30 * i ∧ S.O.length ≤ i ∧ (gkeys S.O).Nodup) ⟨none, _, rfl, s2, hSt, rfl, ⟨fun k => by show (0 : Int) ≤ 0; decide, fun e he => by simp [SS.p, pst] at he, fun e he => by simp [SS.p, pst] at he⟩, fun e he => by simp at he, Nat.le_refl _, Nat.le_refl _, Nat.le_refl _, List.nodup_nil⟩ (fun i σ HX _ ⟨_, _, _, s, _⟩ => SqL.of (s _ _ hR.at_)) ?_ ?_
  · rintro i x σ HX hx ⟨v2, S, rfl, sX, hS, hf, hG, hBV, bn, bV, bO, hnd⟩
    obtain ⟨ra, hra, rfl⟩ := mem_rf hx
    obtain ⟨r, hr2, hRA⟩ := hR.each i ra hra
    have hi : i < rs.length := (List.getElem?_eq_some_iff.mp hr2).1
    obtain ⟨dx, ha⟩ := id hS.ob
    have hM : S.M.length ≤ 50 := by
      have := hh i
      rw [← hf] at this
      have : (pst S.M).length ≤ 50 := this
      unfold pst at this
      rw [List.length_map] at this
      exact this
    refine ⟨_, rfl, a, _, _, rfl, ha, stf_no _ _ _ _ (by decide +kernel) (by decide +kernel) (by decide +kernel) (by decide +kernel), _, rfl, a, c, v, h, o, ra, S, r, rfl, hS, hRA.tp (Same.tp sX), hok r (List.mem_of_getElem? hr2), hG, by omega, by omega, by omega, by omega, fun b HY S1 hq => ?_⟩
    have l1 := hq.ln
    have l2 := hq.lv
    have l3 := hq.lo
    refine ⟨_, S1, rfl, fun b u hb => hq.keep b u (sX _ _ hb) (ne_of_none hb na) (ne_of_none hb Bh) (ne_of_none hb Bo) (ne_of_none hb Bv) (fun e he => ne_of_none hb (hBV e he)), hq.st, ?_, hq.good, fun e he => ?_, by omega, by omega, by omega, ?_⟩
    · rw [hq.f, hf, take_succ hr2, fof_snoc]
    · rcases hq.nw e he with ⟨e0, g1, g2⟩ | g1
      · rw [g2]
        exact hBV e0 g1
      · exact sX.free g1
    · rw [hq.no]
      exact nO_nodup hnd rfl
  · rintro σ HX ⟨v2, S, rfl, sX, hS, hf, hG, hBV, bn, bV, bO, hnd⟩
    rw [List.length_map, hR.len] at bn
    rw [List.length_map, hR.len, List.take_length] at hf
    exact ⟨_, rfl, h1 a c v h o S HX sX hS hf bn hBV hnd⟩

--PART /work/steering/wip/parts/dok.lean
/-! ### data that can be compared with itself -/
structure Dok (n : Nat) (d : PyData) : Prop where
  lay : PyData.canLay0 d = true
  dep : PyData.depth d ≤ n
  eq : PyData.eqv d d = true
theorem Dok.all {n : Nat} : ∀ xs : List PyData, (∀ x ∈ xs, Dok n x) → PyData.canLayAll0 xs = true ∧ PyData.depthAll xs ≤ n ∧ PyData.eqvAll xs xs = true
  | [], _ => ⟨rfl, by rw [PyData.depthAll]; omega, rfl⟩
  | x :: r, h => by
    obtain ⟨h1, h2, h3⟩ := Dok.all r fun y hy => h y (List.mem_cons_of_mem _ hy)
    have hx := h x List.mem_cons_self
    refine ⟨?_, ?_, ?_⟩
    · show (PyData.canLay0 x && PyData.canLayAll0 r) = true
      rw [h1, hx.lay]
      rfl
    · have := hx.dep
      rw [PyData.depthAll]
      omega
    · show (PyData.eqv x x && PyData.eqvAll r r) = true
      rw [h3, hx.eq]
      rfl
theorem Dok.none (n : Nat) : Dok n .none := ⟨rfl, by rw [PyData.depth]; omega, rfl⟩
theorem Dok.int (n : Nat) (i : Int) : Dok n (.int i) := ⟨rfl, by rw [PyData.depth]; omega, by show (i == i) = true; simp⟩
theorem Dok.str (n : Nat) {t : Str} (h : alT t) : Dok n (.str t) := ⟨by unfold PyData.canLay0; exact h.strOk, by rw [PyData.depth]; omega, by show (t == t) = true; simp⟩
theorem Dok.list {n : Nat} {xs : List PyData} (h : ∀ x ∈ xs, Dok n x) : Dok (n + 1) (.list xs) := by
  obtain ⟨h1, h2, h3⟩ := Dok.all xs h
  exact ⟨by unfold PyData.canLay0; exact h1, by unfold PyData.depth; omega, h3⟩
theorem Dok.tup {n : Nat} {xs : List PyData} (h : ∀ x ∈ xs, Dok n x) : Dok (n + 1) (.tuple xs) := by
  obtain ⟨h1, h2, h3⟩ := Dok.all xs h
  exact ⟨by unfold PyData.canLay0; exact h1, by unfold PyData.depth; omega, h3⟩
theorem Dok.shaped {n : Nat} {d : PyData} (h : Dok n d) (hn : n ≤ 64) : SeqAt.shaped d = true := by
  unfold SeqAt.shaped
  have := h.dep
  rw [h.lay, decide_eq_true (show d.depth ≤ 64 by omega)]
  rfl
theorem dpAll_of {α : Type} {K : PySem.W.Frag} {H : Hp} (d : α → PyData) : ∀ (as : List Addr) (bs : List α), as.length = bs.length → (∀ (j : Nat) (a : Addr), as[j]? = some a → ∃ b, bs[j]? = some b ∧ Dp K H (.ref a) (d b)) → DpAll K H (as.map V.ref) (bs.map d)
  | [], [], _, _ => .nil
  | [], _ :: _, h, _ => by simp at h
  | _ :: _, [], h, _ => by simp at h
  | a :: as, b :: bs, h, e => by
    obtain ⟨b', h1, h2⟩ := e 0 a rfl
    have : b = b' := Option.some.inj h1
    subst this
    exact .cons h2 (dpAll_of d as bs (Nat.succ.inj h) fun j x hj => e (j + 1) x hj)

--PART /work/steering/wip/parts/k46.lean
def spLaw (K : PySem.W.Frag) : Sp := fun vs H Q _ => ∃ (a : Addr) (ns : List Int), vs = [.ref a] ∧ SqL K H a (ns.map V.int) ∧ ns.length ≤ 63 ∧ ∀ H', Q (.bl true) H'
def sp_law (T : Env K mg) : Sp := spLaw K
def dO : Option Int → PyData
  | none => .none
  | some i => .int i
theorem dp_oV {K : PySem.W.Frag} {H : Hp} (v : Option Int) : Dp K H (oV v) (dO v) := by
  cases v with
  | none => exact .non
  | some i => exact .int i
theorem dok_o (n : Nat) (v : Option Int) : Dok n (dO v) := by
  cases v with
  | none => exact .none n
  | some i => exact .int n i
def dW (e : Str × Option Int) : PyData := .tuple [.str e.1, dO e.2]
def dRec : Rec → PyData
  | .floor t => .tuple [.str "floor", .int t]
  | .prep x t ld rs ws => .tuple [.str "prepare", .int x, .int t, .int ld, .tuple (rs.map PyData.str), .tuple (ws.map dW)]
  | .dec d x t => .tuple [.str (if d = true then "decide" else "done"), .int x, .int t]
def dRecs (rs : List Rec) : PyData := .list (rs.map dRec)
theorem RecAt.dp {K : PySem.W.Frag} {H : Hp} {a : Addr} {r : Rec} (h : RecAt H a r) : Dp K H (.ref a) (dRec r) := by
  cases h with
  | floor t h => exact .tup (SqT.of h) (.cons (.str _) (.cons (.int _) .nil))
  | prep r w as x t ld rs ws h hr hw =>
    refine .tup (SqT.of h) (.cons (.str _) (.cons (.int _) (.cons (.int _) (.cons (.int _) (.cons (.tup (SqT.of hr) (dp_all_strs rs)) (.cons (.tup (SqT.of hw.at_) (dpAll_of dW as ws hw.len fun j b hj => ?_)) .nil))))))
    obtain ⟨e, h1, h2⟩ := hw.each j b hj
    exact ⟨e, h1, .tup (SqT.of h2) (.cons (.str _) (.cons (dp_oV _) .nil))⟩
  | dec d x t h => exact .tup (SqT.of h) (.cons (.str _) (.cons (.int _) (.cons (.int _) .nil)))
theorem RL.dp {K : PySem.W.Frag} {H : Hp} {p : Addr} {as : List Addr} {rs : List Rec} (h : RL H p as rs) : Dp K H (.ref p) (dRecs rs) :=
  .lst (SqL.of h.at_) (dpAll_of dRec as rs h.len fun j x hj => by
    obtain ⟨e, h1, h2⟩ := h.each j x hj
    exact ⟨e, h1, h2.dp⟩)
theorem al_floor : alT "floor" := by decide +kernel
theorem al_prep : alT "prepare" := by decide +kernel
theorem al_dec : alT "decide" := by decide +kernel
theorem al_done : alT "done" := by decide +kernel
theorem dok_rec {ks : List Str} (hk : ∀ k ∈ ks, alT k) {r : Rec} (h : recIn ks r) : Dok 3 (dRec r) := by
  cases r with
  | floor t =>
    refine .tup fun x hx => ?_
    simp only [List.mem_cons, List.not_mem_nil, or_false] at hx
    rcases hx with rfl | rfl
    · exact .str 2 al_floor
    · exact .int 2 _
  | prep x t ld rs ws =>
    refine .tup fun y hy => ?_
    simp only [List.mem_cons, List.not_mem_nil, or_false] at hy
    rcases hy with rfl | rfl | rfl | rfl | rfl | rfl
    · exact .str 2 al_prep
    · exact .int 2 _
    · exact .int 2 _
    · exact .int 2 _
    · refine .tup fun z hz => ?_
      obtain ⟨k, hk2, rfl⟩ := List.mem_map.mp hz
      exact .str 1 (hk k (h.1 k hk2))
    · refine .tup fun z hz => ?_
      obtain ⟨e, he, rfl⟩ := List.mem_map.mp hz
      refine .tup fun u hu => ?_
      simp only [List.mem_cons, List.not_mem_nil, or_false] at hu
      rcases hu with rfl | rfl
      · exact .str 0 (hk _ (h.2 e he))
      · exact dok_o 0 _
  | dec d x t =>
    refine .tup fun y hy => ?_
    simp only [List.mem_cons, List.not_mem_nil, or_false] at hy
    rcases hy with rfl | rfl | rfl
    · cases d
      · exact .str 2 al_done
      · exact .str 2 al_dec
    · exact .int 2 _
    · exact .int 2 _
/-- a list that is none of theirs -/
structure Off (q pl : Addr) (S : SS) (Z : PL) : Prop where
  p : q ≠ pl
  s : ∀ e ∈ S.V, e.2.1 ≠ q
  r : ∀ e ∈ Z.R, e.2.1 ≠ q
theorem Off.deal {H H' : Hp} {q pl dh dO dr : Addr} {S : SS} {Z Z' : PL} {r : Rec} {b : Bool} {xs} (x : Off q pl S Z) (h : PPost H H' pl dh dO dr Z Z' r b) (y : PlAt H pl dh dO dr Z) (hq : H q = some (.lst xs)) : Off q pl S Z' ∧ H' q = some (.lst xs) := by
  refine ⟨⟨x.p, x.s, fun e he w => ?_⟩, h.keep _ _ hq x.p (fun w => ?_) (fun w => ?_) (fun w => ?_)⟩
  · rcases h.nw e he with ⟨e0, g1, g2⟩ | g1
    · exact x.r e0 g1 (g2.symm.trans w)
    · rw [w, hq] at g1
      cases g1
  · rw [w, y.he.at_] at hq
    cases hq
  · rw [w, y.ou] at hq
    cases hq
  · rw [w, y.ro.at_] at hq
    cases hq
theorem Off.apply {T : Env K mg} {H H' : Hp} {q pl a c v h o : Addr} {S S' : SS} {Z : PL} {r : Rec} {b : Bool} {xs} (x : Off q pl S Z) (p : Post T H H' a c v h o S S' r b) (y : StAt T H a c v h o S) (hq : H q = some (.lst xs)) : Off q pl S' Z ∧ H' q = some (.lst xs) := by
  refine ⟨⟨x.p, fun e he w => ?_, x.r⟩, p.keep _ _ hq (fun w => ?_) (fun w => ?_) (fun w => ?_) (fun w => ?_) fun e he => Ne.symm (x.s e he)⟩
  · rcases p.nw e he with ⟨e0, g1, g2⟩ | g1
    · exact x.s e0 g1 (g2.symm.trans w)
    · rw [w, hq] at g1
      cases g1
  · obtain ⟨dx, ha⟩ := y.ob
    rw [w, ha] at hq
    cases hq
  · rw [w, y.he.at_] at hq
    cases hq
  · rw [w, y.ou] at hq
    cases hq
  · rw [w, y.ce.at_] at hq
    cases hq
theorem Off.new {T : Env K mg} {H : Hp} {q pl a c v h o dh dO dr : Addr} {S : SS} {Z : PL} (x : StAt T H a c v h o S) (y : PlAt H pl dh dO dr Z) (n : H q = none) : Off q pl S Z := by
  refine ⟨fun w => ?_, fun e he w => ?_, fun e he w => ?_⟩
  · rw [w, y.at_] at n
    cases n
  · obtain ⟨as, g1, _⟩ := x.ce.vs e he
    rw [w] at g1
    rw [g1.at_] at n
    cases n
  · obtain ⟨as, g1, _⟩ := y.ro.each e he
    rw [w] at g1
    rw [g1.at_] at n
    cases n
theorem Post.tp {T : Env K mg} {H H' : Hp} {a c v h o : Addr} {S S' : SS} {r : Rec} {b : Bool} (p : Post T H H' a c v h o S S' r b) (y : StAt T H a c v h o S) : Tp H H' := fun q xs hq => p.keep _ _ hq (fun w => by
  obtain ⟨dx, ha⟩ := y.ob
  rw [w, ha] at hq
  cases hq) (fun w => by
  rw [w, y.he.at_] at hq
  cases hq) (fun w => by
  rw [w, y.ou] at hq
  cases hq) (fun w => by
  rw [w, y.ce.at_] at hq
  cases hq) fun e he w => by
  obtain ⟨as, g1, _⟩ := y.ce.vs e he
  rw [w, g1.at_] at hq
  cases hq
theorem ok_law (T : Env K mg) : FnOk P w K mg base CX0 9 T.a_law T.d_law ["script"] (sp_law T) := by
  refine T.F_law.ok sc_law (fun vs H Q E h => by obtain ⟨_, _, rfl, _⟩ := h; rfl) (fun cdv A outer s H vs Q E hr h => ?_)
  obtain ⟨a0, ns, rfl, hS0, hlen, h1⟩ := h
  have hu64 := hu64_of hr
  have G__law_keys := ok__law_keys (P := P) (w := w) (base := base) T
  have G_State_init := ok_State_init (P := P) (w := w) (base := base) T
  have G_state_of := ok_state_of (P := P) (w := w) (base := base) T
  have G__law_cell := ok__law_cell (P := P) (w := w) (base := base) T
  have G__law_near := ok__law_near (P := P) (w := w) (base := base) T
  have G__law_deal := ok__law_deal (P := P) (w := w) (base := base) T
  have G__law_draws := ok__law_draws (P := P) (w := w) (base := base) T
  have G__law_state_right := ok__law_state_right (P := P) (w := w) (base := base) T
  have G__law_like := ok__law_like (P := P) (w := w) (base := base) T
  have G_State_apply := ok_State_apply (P := P) (w := w) (base := base) T
  have G__law_like := G__law_like 1
  refine ⟨_, (pss_cons (ps_set (i := 1) sc_law.nd rfl (Or.inl rfl) (pe_call G__law_keys (hr.mono (by decide)) rfl T.g__law_keys T.F__law_keys.kp T.b__law_keys .nil passL (pa_cons (pe_call G__law_cell (hr.mono (by decide)) rfl T.g__law_cell T.F__law_cell.kp T.b__law_cell .nil passL (pa_cons (pv 0) (pa_cons pe_int pa_nil))) pa_nil)))
      (pss_cons (ps_set (i := 2) sc_law.nd rfl (Or.inl rfl) (pe_lst (pa_cons pe_int (pa_cons pe_dnewK (pa_cons pe_dnewK (pa_cons pe_dnewK pa_nil))))))
      (pss_cons (ps_set (i := 3) sc_law.nd rfl (Or.inl rfl) (pe_make0 T.M_State G_State_init (hr.mono (by decide)) rfl T.k_State.mgC T.b_State_init .nil passL))
      (pss_cons (ps_set (i := 4) sc_law.nd rfl (Or.inl rfl) (pe_lst pa_nil))
      (pss_cons (ps_set (i := 5) sc_law.nd rfl (Or.inl rfl) (pe_lst pa_nil))
      (pss_cons (ps_for PassesOwn.never rfl (pi_range2 rfl T.z_range (pa_cons pe_int (pa_cons (pe_callB (call_min2 rfl) (by rfl) T.z_min (by decide +kernel) (pa_cons pe_int (pa_cons (pe_callB call_len (by rfl) T.z_len (by decide +kernel) (pa_cons (pv 0) pa_nil)) pa_nil))) pa_nil))) (pg_name (i := 6) sc_law.nd rfl (Or.inl rfl)) (pss_cons (ps_set (i := 7) sc_law.nd rfl (Or.inl rfl) (pe_call G__law_near (hr.mono (by decide)) rfl T.g__law_near T.F__law_near.kp T.b__law_near .nil passL (pa_cons (pe_call G__law_draws (hr.mono (by decide)) rfl T.g__law_draws T.F__law_draws.kp T.b__law_draws .nil passL (pa_cons (pe_call G__law_cell (hr.mono (by decide)) rfl T.g__law_cell T.F__law_cell.kp T.b__law_cell .nil passL (pa_cons (pv 0) (pa_cons (pv 6) pa_nil))) (pa_cons pe_int (pa_cons pe_int pa_nil)))) (pa_cons (pv 1) (pa_cons (pe_ix ix_list (pv 2) pe_int (fun _ _ => rfl)) (pa_cons pe_int pa_nil))))))
      (pss_cons (ps_set (i := 8) sc_law.nd rfl (Or.inl rfl) (pe_call G__law_deal (hr.mono (by decide)) rfl T.g__law_deal T.F__law_deal.kp T.b__law_deal .nil passL (pa_cons (pv 2) (pa_cons (pv 7) pa_nil))))
      (pss_cons (ps_if (PW.pt (pw_or (pt_not (pt_val (pe_call G__law_like (hr.mono (by decide)) rfl T.g__law_like T.F__law_like.kp T.b__law_like .nil passL (pa_cons (pe_meth (pv 3) T.k_State.cl T.m_State_apply G_State_apply (hr.mono (by decide)) T.b_State_apply .nil passL (pa_cons (pv 7) pa_nil)) (pa_cons (pv 8) pa_nil))))) (pw_or1 (pt_not (pt_val (pe_call G__law_like (hr.mono (by decide)) rfl T.g__law_like T.F__law_like.kp T.b__law_like .nil passL (pa_cons (pe_meth (pv 3) T.k_State.cl T.m_State_apply G_State_apply (hr.mono (by decide)) T.b_State_apply .nil passL (pa_cons (pv 7) pa_nil)) (pa_cons pe_bl pa_nil)))))))) (pss_one (ps_ret pe_bl)) pss_nil)
      (pss_cons (ps_expr (pe_bm PySem.F.plainAttrs_list PySem.F.slot_list_append PySem.F.type_list_append mt_append (pv 4) (pa_cons (pv 7) pa_nil)))
      (pss_cons (ps_set (i := 5) sc_law.nd rfl (Or.inl rfl) (pe_op op_cat (pv 5) (pe_lst (pa_cons (pv 7) (pa_cons (pv 7) pa_nil)))))
      (pss_one (ps_if (pt_cmpR op_eq (pe_op op_mod (pv 6) pe_int) pe_int (nomark _)) (pss_cons (ps_set (i := 9) sc_law.nd rfl (Or.inl rfl) (pe_call G_state_of (hr.mono (by decide)) rfl T.g_state_of T.F_state_of.kp T.b_state_of .nil passL (pa_cons (pe_callTy call_list_of (by rfl) T.z_list (by decide +kernel) (pa_cons (pv 4) pa_nil)) pa_nil)))
      (pss_one (ps_if (PW.pt (pw_or (pt_not (pt_val (pe_callB call_isi (by rfl) T.z_isinstance (by decide +kernel) (pa_cons (pv 9) (pa_cons (pe_glob (v := .ref T.a_State) rfl T.k_State.mgC rfl) pa_nil))))) (pw_or1 (pt_not (pt_val (pe_call G__law_state_right (hr.mono (by decide)) rfl T.g__law_state_right T.F__law_state_right.kp T.b__law_state_right .nil passL (pa_cons (pv 9) (pa_cons (pv 2) (pa_cons (pv 1) (pa_cons (pe_lst (pa_cons pe_int (pa_cons pe_int (pa_cons pe_int (pa_cons pe_int (pa_cons pe_int pa_nil)))))) pa_nil)))))))))) (pss_one (ps_ret pe_bl)) pss_nil))) pss_nil))))))))
      (pss_cons (ps_set (i := 10) sc_law.nd rfl (Or.inl rfl) (pe_callTy call_list_of (by rfl) T.z_list (by decide +kernel) (pa_cons (pv 4) pa_nil)))
      (pss_cons (ps_set (i := 9) sc_law.nd rfl (Or.inl rfl) (pe_call G_state_of (hr.mono (by decide)) rfl T.g_state_of T.F_state_of.kp T.b_state_of .nil passL (pa_cons (pv 10) pa_nil)))
      (pss_cons (ps_set (i := 11) sc_law.nd rfl (Or.inl rfl) (pe_call G_state_of (hr.mono (by decide)) rfl T.g_state_of T.F_state_of.kp T.b_state_of .nil passL (pa_cons (pv 5) pa_nil)))
      (pss_cons (ps_if (pt_cmpR (op_neD hu64) (pv 10) (pv 4) (nomark _)) (pss_one (ps_ret pe_bl)) pss_nil)
      (pss_cons (ps_expr (pe_bm PySem.F.plainAttrs_list PySem.F.slot_list_append PySem.F.type_list_append mt_append (pv 10) (pa_cons (pe_tup (pa_cons pe_str (pa_cons (pe_op op_add (pe_ix ix_list (pv 2) pe_int (fun _ _ => rfl)) pe_int) pa_nil))) pa_nil)))
      (pss_cons (ps_expr (pe_call G_state_of (hr.mono (by decide)) rfl T.g_state_of T.F_state_of.kp T.b_state_of .nil passL (pa_cons (pv 10) pa_nil)))
      (pss_cons (ps_for PassesOwn.never rfl (pi_list (pe_lst (pa_cons (pv 9) (pa_cons (pv 11) (pa_cons (pv 3) pa_nil))))) (pg_name (i := 12) sc_law.nd rfl (Or.inl rfl)) (pss_one (ps_if (pt_not (pt_val (pe_call G__law_state_right (hr.mono (by decide)) rfl T.g__law_state_right T.F__law_state_right.kp T.b__law_state_right .nil passL (pa_cons (pv 12) (pa_cons (pv 2) (pa_cons (pv 1) (pa_cons (pe_lst (pa_cons pe_int (pa_cons pe_int (pa_cons pe_int (pa_cons pe_int (pa_cons pe_int (pa_cons pe_int pa_nil))))))) pa_nil))))))) (pss_one (ps_ret pe_bl)) pss_nil)))
      (pss_one (ps_ret pe_bl))))))))))))))), ?_⟩
  refine ⟨_, rfl, a0, ns, 0, rfl, hS0, by decide, _, rfl, cell_nn ns 0, fun pk ks B sB npk hkl hkk hK => ?_⟩
  refine fun dh ndh dO ndO dr ndr => ⟨(by show 4 ≤ sizeLine; decide), fun pl npl => ?_⟩
  have ndO0 : B dO = none := (same_new ndh).free ndO
  have ndr0 : B dr = none := ((same_new ndh).trans (same_new ndO)).free ndr
  have dd1 : dh ≠ dO := ne_of_none upd_same ndO
  have dd3 : dO ≠ dr := ne_of_none upd_same ndr
  have dd2 : dh ≠ dr := ne_of_none (by rw [upd_ne dd1]; exact upd_same) ndr
  have dp1 : dr ≠ pl := ne_of_none upd_same npl
  have dp2 : dO ≠ pl := ne_of_none (by rw [upd_ne dd3]; exact upd_same) npl
  have dp3 : dh ≠ pl := ne_of_none (by rw [upd_ne dd2, upd_ne dd1]; exact upd_same) npl
  have Bp : B pl = none := (((same_new ndh).trans (same_new ndO)).trans (same_new ndr)).free npl
  have s3 := (((same_new (o := .dK []) ndh).trans (same_new (o := .dK []) ndO)).trans (same_new (o := .dK []) ndr)).trans (same_new (o := .lst [V.int 0, .ref dh, .ref dO, .ref dr]) npl)
  have hPl : PlAt (upd (upd (upd (upd B dh (.dK [])) dO (.dK [])) dr (.dK [])) pl (.lst [V.int 0, .ref dh, .ref dO, .ref dr])) pl dh dO dr ⟨0, [], [], [], 0⟩ := ⟨upd_same, ⟨by rw [upd_ne dp3, upd_ne dd2, upd_ne dd1, upd_same]; rfl, List.nodup_nil, fun e he => by simp at he⟩, by rw [upd_ne dp2, upd_ne dd3, upd_same]; rfl, ⟨by rw [upd_ne dp1, upd_same]; rfl, fun e he => by simp at he⟩, dd1, dd2, dd3, fun e he => by simp at he, fun e he => by simp at he⟩
  generalize upd (upd (upd (upd B dh (.dK [])) dO (.dK [])) dr (.dK [])) pl (.lst [V.int 0, .ref dh, .ref dO, .ref dr]) = H3 at s3 hPl
  intro a dxa na ndx nex
  refine ⟨a, dxa, rfl, upd_same, fun c v h o H2 nc nv nh no hSt hk2 => ⟨rfl, ?_⟩⟩
  have n0 : ∀ {x : Addr}, upd (upd H3 dxa (.own a)) a (.ins T.a_State dxa []) x = none → H3 x = none := fun {x} hx => by
    have n1 : x ≠ a := fun w => by
      rw [w, upd_same] at hx
      cases hx
    have n2 : x ≠ dxa := fun w => by
      rw [upd_ne n1, w, upd_same] at hx
      cases hx
    rw [upd_ne n1, upd_ne n2] at hx
    exact hx
  have h3h := n0 nh
  have h3o := n0 no
  have h3v := n0 nv
  have s2 : Same H3 H2 := fun b u hb => hk2 b u (by rw [upd_ne (ne_of_none hb na), upd_ne (ne_of_none hb ndx)]; exact hb) (ne_of_none hb na)
  have dH : h ≠ dh ∧ h ≠ dO ∧ h ≠ dr := ⟨Ne.symm (ne_of_none hPl.he.at_ h3h), Ne.symm (ne_of_none hPl.ou h3h), Ne.symm (ne_of_none hPl.ro.at_ h3h)⟩
  have dOo : o ≠ dh ∧ o ≠ dO ∧ o ≠ dr := ⟨Ne.symm (ne_of_none hPl.he.at_ h3o), Ne.symm (ne_of_none hPl.ou h3o), Ne.symm (ne_of_none hPl.ro.at_ h3o)⟩
  have dV : v ≠ dh ∧ v ≠ dO ∧ v ≠ dr := ⟨Ne.symm (ne_of_none hPl.he.at_ h3v), Ne.symm (ne_of_none hPl.ou h3v), Ne.symm (ne_of_none hPl.ro.at_ h3v)⟩
  have Ba : B a = none := s3.free na
  have Bh : B h = none := s3.free h3h
  have Bo : B o = none := s3.free h3o
  have Bv : B v = none := s3.free h3v
  refine ⟨Nat.zero_le _, fun pr npr => ⟨Nat.zero_le _, fun pd npd => ?_⟩⟩
  have sr := same_new (o := .lst (([] : List Addr).map V.ref)) npr
  have sd := same_new (o := .lst (([] : List Addr).map V.ref)) npd
  have hpr : upd (upd H2 pr (.lst (([] : List Addr).map V.ref))) pd (.lst (([] : List Addr).map V.ref)) pr = some (.lst (([] : List Addr).map V.ref)) := sd _ _ upd_same
  have hpd : upd (upd H2 pr (.lst (([] : List Addr).map V.ref))) pd (.lst (([] : List Addr).map V.ref)) pd = some (.lst (([] : List Addr).map V.ref)) := upd_same
  have sB4 : Same B (upd (upd H2 pr (.lst (([] : List Addr).map V.ref))) pd (.lst (([] : List Addr).map V.ref))) := ((s3.trans s2).trans sr).trans sd
  have hSt4 : StAt T (upd (upd H2 pr (.lst (([] : List Addr).map V.ref))) pd (.lst (([] : List Addr).map V.ref))) a c v h o ⟨0, [], [], [], 0⟩ := hSt.same (sr.trans sd)
  have hPl4 : PlAt (upd (upd H2 pr (.lst (([] : List Addr).map V.ref))) pd (.lst (([] : List Addr).map V.ref))) pl dh dO dr ⟨0, [], [], [], 0⟩ := (hPl.same s2).same (sr.trans sd)
  have oR : Off pr pl ⟨0, [], [], [], 0⟩ ⟨0, [], [], [], 0⟩ := Off.new hSt (hPl.same s2) npr
  have oD : Off pd pl ⟨0, [], [], [], 0⟩ ⟨0, [], [], [], 0⟩ := Off.new (hSt.same sr) ((hPl.same s2).same sr) npd
  have Bpr : B pr = none := (s3.trans s2).free npr
  have Bpd : B pd = none := ((s3.trans s2).trans sr).free npd
  show tSeq _ _ _ _ (upd (upd H2 pr (.lst (([] : List Addr).map V.ref))) pd (.lst (([] : List Addr).map V.ref)))
  generalize upd (upd H2 pr (.lst (([] : List Addr).map V.ref))) pd (.lst (([] : List Addr).map V.ref)) = H4 at hpr hpd sB4 hSt4 hPl4
  clear hk2 sr sd
  refine ⟨_, rfl, _, _, rfl, .inl ⟨_, (sB.trans sB4).seq hS0, rfl⟩, _, _, rfl, ?_⟩
  rw [List.length_map]
  obtain ⟨n, hn, hn41⟩ : ∃ n : Nat, (if ((ns.length : Nat) : Int) < 41 then ((ns.length : Nat) : Int) else (41 : Int)) = (n : Int) ∧ n ≤ 41 := ⟨(if ((ns.length : Nat) : Int) < 41 then ((ns.length : Nat) : Int) else (41 : Int)).toNat, by split <;> omega, by split <;> omega⟩
  rw [hn]
  refine ⟨_, _, rfl, ⟨by decide, by decide, by omega, by omega⟩, ?_⟩
  refine for_range (n := (((n : Nat) : Int) - 1).toNat) (fun i σ HX => ∃ v6 v7 v8 v9 pd as ds rs, ∃ (S : SS) (Z : PL), σ = [some (.ref a0), some (.ref pk), some (.ref pl), some (.ref a), some (.ref pr), some (.ref pd), v6, v7, v8, v9, none, none, none] ∧ Same B HX ∧ StAt T HX a c v h o S ∧ PlAt HX pl dh dO dr Z ∧ S.f = Z.f ∧ Z.f = fof rs ∧ Good S.p S.V ∧ (∀ e ∈ S.V, e.2.1 ≠ pl ∧ ∀ e' ∈ Z.R, e.2.1 ≠ e'.2.1) ∧ (∀ e ∈ S.V, B e.2.1 = none) ∧ (S.n ≤ 60 * i ∧ S.V.length ≤ 60 * i) ∧ (Z.n ≤ 30 * i ∧ Z.R.length ≤ 30 * i ∧ Z.O.length ≤ i ∧ Z.M.length ≤ i) ∧ (gkeys Z.O).Nodup ∧ RL HX pr as rs ∧ RL HX pd ds (dbl rs) ∧ Off pr pl S Z ∧ Off pd pl S Z ∧ pd ≠ pr ∧ (∀ r ∈ rs, recOk r ∧ recIn ks r) ∧ rs.length = i) ⟨none, none, none, none, pd, [], [], [], ⟨0, [], [], [], 0⟩, ⟨0, [], [], [], 0⟩, rfl, sB4, hSt4, hPl4, rfl, rfl, ⟨fun k => by show (0 : Int) ≤ 0; decide, fun e he => by simp [SS.p, pst] at he, fun e he => by simp [SS.p, pst] at he⟩, fun e he => by simp at he, fun e he => by simp at he, ⟨Nat.le_refl _, Nat.le_refl _⟩, ⟨Nat.le_refl _, Nat.le_refl _, Nat.le_refl _, Nat.le_refl _⟩, List.nodup_nil, ⟨hpr, rfl, fun j b hj => by simp at hj⟩, ⟨hpd, rfl, fun j b hj => by simp at hj⟩, oR, oD, (ne_of_none upd_same npd).symm, fun r hr => by simp at hr, rfl⟩ ?_ ?_
  rotate_left
  · rintro σ HX ⟨v6, v7, v8, v9, pd, as, ds, rs, S, Z, rfl, sX, hS, hZ, hfe, hff, hG, hdj, hBV, ⟨bn, bV⟩, ⟨zn, zR, zO, zM⟩, hnd, hRL, hDL, oR, oD, hdp, hrs, hrl⟩
    have hrl40 : rs.length ≤ 40 := by omega
    have hlm : ∀ {S : SS} {Z : PL}, S.f = Z.f → S.M.length = Z.M.length := fun {S Z} e => by
      have := congrArg (fun F : FS => F.p.held.length) e
      have : (pst S.M).length = (pst Z.M).length := this
      unfold pst at this
      rw [List.length_map, List.length_map] at this
      exact this
    have rll := hRL.len
    refine ⟨_, rfl, pr, _, rfl, .inl (SqL.of hRL.at_), fun g ng => ?_⟩
    have sg := same_new (o := .lst (as.map V.ref)) ng
    have hGL : RL (upd HX g (.lst (as.map V.ref))) g as rs := hRL.to (Same.tp sg) upd_same
    have oG : Off g pl S Z := Off.new hS hZ ng
    have hS1 := hS.same sg
    have hZ1 := hZ.same sg
    have hRL1 := hRL.same sg
    have hDL1 := hDL.same sg
    have sX1 := sX.trans sg
    have Bg : B g = none := sX.free ng
    show tSeq _ _ _ _ (upd HX g (.lst (as.map V.ref)))
    generalize upd HX g (.lst (as.map V.ref)) = H1 at hGL hS1 hZ1 hRL1 hDL1 sX1
    refine ⟨_, rfl, g, as, rs, rfl, hGL, fun r' h' => (hrs r' h').1, by omega, fun j => by have := fof_held rs j; omega, fun a2 c2 v2 h2 o2 S2 H2 s2 hSt2 hf2 hn2 hnew2 hnd2 => ?_⟩
    have hGL2 := hGL.same s2
    have hDL2 := hDL1.same s2
    have g2 : ∀ e ∈ S2.V, e.2.1 ≠ g := fun e he w => by
      have := hnew2 e he
      rw [w, hGL.at_] at this
      cases this
    have hdm : ∀ r ∈ dbl rs, r ∈ rs := fun r hr => by
      obtain ⟨x, hx, hx2⟩ := List.mem_flatMap.mp hr
      have : r = x := by simpa using hx2
      rw [this]
      exact hx
    refine ⟨_, rfl, pd, ds, dbl rs, rfl, hDL2, fun r' h' => (hrs r' (hdm r' h')).1, by rw [dbl_len]; omega, fun j => by have := fof_held_dbl rs j; omega, fun a3 c3 v3 h3 o3 S3 H3 s3 hSt3 hf3 hn3 hnew3 hnd3 => ?_⟩
    have hGL3 := hGL2.same s3
    have g3 : ∀ e ∈ S3.V, e.2.1 ≠ g := fun e he w => by
      have := hnew3 e he
      rw [w, hGL2.at_] at this
      cases this
    have hRL3 := (hRL1.same s2).same s3
    have hdk : Dok 4 (dRecs rs) := .list fun x hx => by
      obtain ⟨r, hr, rfl⟩ := List.mem_map.mp hx
      exact dok_rec (fun k hk => (hkk k hk).1) (hrs r hr).2
    refine ⟨_, rfl, _, rfl, _, _, hGL3.dp, hRL3.dp, hdk.shaped (by decide), hdk.shaped (by decide), _, rfl, ifF (by rw [hdk.eq]; rfl) ?_⟩
    have hZ3 := (hZ1.same s2).same s3
    refine ⟨_, rfl, .inl ⟨rfl, _, SqL.of hGL3.at_⟩, _, rfl, pl, _, _, .int Z.fl, rfl, rfl, SqL.of hZ3.at_, atI_nat (j := 0) rfl, _, _, rfl, rfl, (by show 2 ≤ sizeLine; decide), fun y ny => ?_⟩
    have sy := same_new (o := .tup [.str "floor", .int (Z.fl + 9)]) ny
    have hGL4 := hGL3.same sy
    refine ⟨g, _, _, rfl, rfl, hGL4.at_, szl (by rw [List.length_map]; omega), ?_⟩
    have hy : RecAt (upd H3 y (.tup [.str "floor", .int (Z.fl + 9)])) y (.floor (Z.fl + 9)) := .floor y _ upd_same
    have hS4 := ((hS1.same s2).same s3).same sy
    have hZ4 := hZ3.same sy
    have hSt24 := (hSt2.same s3).same sy
    have hSt34 := hSt3.same sy
    have sX4 := ((sX1.trans s2).trans s3).trans sy
    generalize upd H3 y (.tup [.str "floor", .int (Z.fl + 9)]) = H4 at hGL4 hy hS4 hZ4 hSt24 hSt34 sX4
    have kg : ∀ b u, H4 b = some u → b ≠ g → upd H4 g (.lst (as.map V.ref ++ [.ref y])) b = some u := fun b u hb hn => by rw [upd_ne hn]; exact hb
    have tg : Tp H4 (upd H4 g (.lst (as.map V.ref ++ [.ref y]))) := fun b xs hb => kg _ _ hb fun w => by
      rw [w, hGL4.at_] at hb
      cases hb
    have hGL5 : RL (upd H4 g (.lst (as.map V.ref ++ [.ref y]))) g (as ++ [y]) (rs ++ [.floor (Z.fl + 9)]) := hGL4.snoc tg (hy.tp tg) (by rw [upd_same, List.map_append]; rfl)
    have hS5 := hS4.chg kg hGL4.at_ oG.s
    have hZ5 := hZ4.chg kg hGL4.at_ (Ne.symm oG.p) oG.r
    have hSt25 := hSt24.chg kg hGL4.at_ g2
    have hSt35 := hSt34.chg kg hGL4.at_ g3
    have hK5 := kg _ _ (sX4 _ _ hK) (ne_of_none hK Bg)
    show tSeq _ _ _ _ (upd H4 g (.lst (as.map V.ref ++ [.ref y])))
    generalize upd H4 g (.lst (as.map V.ref ++ [.ref y])) = H5 at hGL5 hS5 hZ5 hSt25 hSt35 hK5
    have hrl41 : (rs ++ [Rec.floor (Z.fl + 9)]).length = rs.length + 1 := by rw [List.length_append]; rfl
    refine ⟨_, rfl, g, as ++ [y], rs ++ [.floor (Z.fl + 9)], rfl, hGL5, fun r' h' => ?_, by omega, fun j => by have := fof_held (rs ++ [Rec.floor (Z.fl + 9)]) j; omega, fun _ _ _ _ _ _ H6 s6 _ _ _ _ _ => ?_⟩
    · rcases List.mem_append.mp h' with z | z
      · exact (hrs r' z).1
      · have : r' = .floor (Z.fl + 9) := by simpa using z
        rw [this]
        trivial
    refine ⟨_, rfl, _, rfl, _, rfl, (by show 3 ≤ sizeLine; decide), fun l nl => ?_⟩
    have sl := s6.trans (same_new (o := .lst [.ref a2, .ref a3, .ref a]) nl)
    have hl : upd H6 l (.lst [.ref a2, .ref a3, .ref a]) l = some (.lst [.ref a2, .ref a3, .ref a]) := upd_same
    have hS7 := hS5.same sl
    have hZ7 := hZ5.same sl
    have hSt27 := hSt25.same sl
    have hSt37 := hSt35.same sl
    have hK7 := sl _ _ hK5
    generalize upd H6 l (.lst [.ref a2, .ref a3, .ref a]) = H7 at hl hS7 hZ7 hSt27 hSt37 hK7
    have hO : S.O = Z.O := congrArg FS.O hfe
    have hf2' : S2.f = Z.f := by rw [hf2, hff]
    have hf3' : S3.f = Z.f := by rw [hf3, fof_dbl, hff]
    rw [dbl_len] at hn3
    have each : ∀ (j : Nat) (x : V), ([.ref a2, .ref a3, .ref a] : List V)[j]? = some x → ∃ a c v h o S, x = .ref a ∧ StAt T H7 a c v h o S ∧ S.f = Z.f ∧ S.n ≤ 3000 := fun j x hx => by
      match j, hx with
      | 0, hx => exact ⟨a2, c2, v2, h2, o2, S2, (Option.some.inj hx).symm, hSt27, hf2', by omega⟩
      | 1, hx => exact ⟨a3, c3, v3, h3, o3, S3, (Option.some.inj hx).symm, hSt37, hf3', by omega⟩
      | 2, hx => exact ⟨a, c, v, h, o, S, (Option.some.inj hx).symm, hS7, hfe, by omega⟩
      | (j + 3), hx => cases hx
    refine ⟨l, rfl, ⟨_, SqL.of hl⟩, ?_⟩
    refine for_list (K := K) (a := l) (xs := [.ref a2, .ref a3, .ref a]) (fun i σ H' => ∃ v12, σ = [some (.ref a0), some (.ref pk), some (.ref pl), some (.ref a), some (.ref pr), some (.ref pd), v6, v7, v8, some (.ref a2), some (.ref g), some (.ref a3), v12] ∧ Same H7 H') ⟨none, rfl, Same.refl _⟩ (fun i σ H' _ ⟨_, _, s⟩ => SqL.of (s _ _ hl)) ?_ ?_
    · rintro j x σ H8 hx ⟨v12, rfl, s8⟩
      obtain ⟨a9, c9, v9', h9, o9, S9, rfl, hS9, hf9, hn9⟩ := each j x hx
      have hSM9 := hlm hf9
      have hO9 : S9.O = Z.O := congrArg FS.O hf9
      refine ⟨_, rfl, _, rfl, _, rfl, (by show 6 ≤ sizeLine; decide), fun t nt => ?_⟩
      have st := s8.trans (same_new (o := .lst ([1, 2, 3, 4, 5, 6].map V.int)) nt)
      refine ⟨a9, c9, v9', h9, o9, pl, dh, dO, dr, pk, t, S9, Z, ks, [1, 2, 3, 4, 5, 6], rfl, hS9.same st, hZ7.same st, congrArg FS.p hf9, hO9, congrArg FS.R hf9, by rw [hO9]; exact hnd, by omega, by rw [hO9]; omega, hn9, st _ _ hK7, upd_same, hkl, fun HZ sZ => ⟨_, rfl, ifF rfl ?_⟩⟩
      exact ⟨_, rfl, st.trans sZ⟩
    · rintro σ H8 ⟨v12, rfl, s8⟩
      exact h1 _
  rintro i σ HX hi ⟨v6, v7, v8, v9, pd, as, ds, rs, S, Z, rfl, sX, hS, hZ, hfe, hff, hG, hdj, hBV, ⟨bn, bV⟩, ⟨zn, zR, zO, zM⟩, hnd, hRL, hDL, oR, oD, hdp, hrs, hrl⟩
  have hi40 : i < 40 := by omega
  have hpe : S.p = Z.p := congrArg FS.p hfe
  have hO : S.O = Z.O := congrArg FS.O hfe
  have hlm : ∀ {S : SS} {Z : PL}, S.f = Z.f → S.M.length = Z.M.length := fun {S Z} e => by
    have := congrArg (fun F : FS => F.p.held.length) e
    have : (pst S.M).length = (pst Z.M).length := this
    unfold pst at this
    rw [List.length_map, List.length_map] at this
    exact this
  have hSM := hlm hfe
  refine ⟨_, rfl, _, rfl, a0, ns, _, rfl, (sB.trans sX).seq hS0, by omega, _, 13, 1000, rfl, by decide, by decide, by decide, by decide, fun pn H4 s4 npn hN => ?_⟩
  have hDl : (draws (cell ns (1 + (i : Int))) (13 : Int).toNat 1000).length = 13 := draws_len _ _ _
  have hDm : ∀ d ∈ draws (cell ns (1 + (i : Int))) (13 : Int).toNat 1000, 0 ≤ d ∧ d < 1000 := draws_mem (by decide)
  have hN : Li H4 pn (draws (cell ns (1 + (i : Int))) (13 : Int).toNat 1000) := hN
  generalize draws (cell ns (1 + (i : Int))) (13 : Int).toNat 1000 = N at hN hDl hDm
  have hZ4 := hZ.same s4
  have sX4 := sX.trans s4
  refine ⟨_, rfl, _, rfl, pl, _, _, .int Z.fl, rfl, rfl, SqL.of hZ4.at_, atI_nat (j := 0) rfl, pn, pk, N, ks, Z.fl, 1, rfl, hN, sX4 _ _ hK, by omega, hkl, hDm, fun ra r H5 s5 nra hR hok hin => ?_⟩
  have s45 := s4.trans s5
  have hZ5 := hZ4.same s5
  have hS5 := (hS.same s4).same s5
  have sX5 := sX4.trans s5
  have hRL5 := hRL.same s45
  have hDL5 := hDL.same s45
  refine ⟨_, rfl, _, rfl, pl, dh, dO, dr, ra, Z, r, rfl, hZ5, hR, hok, by omega, by omega, by omega, by omega, fun b1 H6 Z1 hp => ?_⟩
  have tp6 := hp.tp hZ5
  have hS6 := hS5.deal hZ5 hp.keep dH dOo dV (fun e he => (hdj e he).1)
  have sX6 : Same B H6 := fun b u hb => hp.keep b u (sX5 _ _ hb) (ne_of_none hb Bp) (ne_of_none hb ndh) (ne_of_none hb ndO0) (ne_of_none hb ndr0)
  have hR6 := hR.tp tp6
  obtain ⟨oR6, hpr6⟩ := oR.deal hp hZ5 hRL5.at_
  obtain ⟨oD6, hpd6⟩ := oD.deal hp hZ5 hDL5.at_
  have hRL6 := hRL5.to tp6 hpr6
  have hDL6 := hDL5.to tp6 hpd6
  have hdj6 : ∀ e ∈ S.V, e.2.1 ≠ pl ∧ ∀ e' ∈ Z1.R, e.2.1 ≠ e'.2.1 := fun e he => ⟨(hdj e he).1, fun e' he' w => by
    rcases hp.nw e' he' with ⟨e0, g1, g2⟩ | g1
    · exact (hdj e he).2 e0 g1 (w.trans g2)
    · obtain ⟨xs, z, y, k1, k2, k3⟩ := hS5.ce.each e he
      rw [w, g1] at k2
      cases k2⟩
  have step2 : ∀ {HA HB : Hp} {S S' : SS} {b : Bool}, PlAt HA pl dh dO dr Z1 → (∀ e ∈ S.V, e.2.1 ≠ pl ∧ ∀ e' ∈ Z1.R, e.2.1 ≠ e'.2.1) → (∀ e ∈ S.V, B e.2.1 = none) → Same B HA → Post T HA HB a c v h o S S' r b → (∀ e ∈ S'.V, e.2.1 ≠ pl ∧ ∀ e' ∈ Z1.R, e.2.1 ≠ e'.2.1) ∧ (∀ e ∈ S'.V, B e.2.1 = none) ∧ Same B HB := fun {HA HB S S' b} hz hd hb sA hq => by
    refine ⟨fun e he => ?_, fun e he => ?_, fun b u hx => hq.keep b u (sA _ _ hx) (ne_of_none hx Ba) (ne_of_none hx Bh) (ne_of_none hx Bo) (ne_of_none hx Bv) (fun e he => ne_of_none hx (hb e he))⟩
    · rcases hq.nw e he with ⟨e0, g1, g2⟩ | g1
      · rw [g2]
        exact hd e0 g1
      · refine ⟨fun w => ?_, fun e' he' w => ?_⟩
        · rw [w, hz.at_] at g1
          cases g1
        · obtain ⟨as, k1, k2⟩ := hz.ro.each e' he'
          rw [w, k1.at_] at g1
          cases g1
    · rcases hq.nw e he with ⟨e0, g1, g2⟩ | g1
      · rw [g2]
        exact hb e0 g1
      · exact sA.free g1
  obtain ⟨dx6, ha6⟩ := id hS6.ob
  refine ⟨_, rfl, a, _, _, rfl, ha6, stf_no _ _ _ _ (by decide +kernel) (by decide +kernel) (by decide +kernel) (by decide +kernel), _, rfl, a, c, v, h, o, ra, S, r, rfl, hS6, hR6, hok, hG, by omega, by omega, by rw [hO]; omega, by omega, fun b2 H7 S1 hq => ?_⟩
  have hZ7 := hp.st.apply hS6 hq.keep dH dOo dV hdj6
  obtain ⟨hdj7, hBV7, sX7⟩ := step2 hp.st hdj6 hBV sX6 hq
  have hS7 := hq.st
  have hfe7 : S1.f = Z1.f := by rw [hq.f, hp.f, hfe]
  have hbb : b2 = b1 := by rw [hq.ok, hp.ok, hpe]
  obtain ⟨oR7, hpr7⟩ := oR6.apply hq hS6 hpr6
  obtain ⟨oD7, hpd7⟩ := oD6.apply hq hS6 hpd6
  have tp7 := hq.tp hS6
  have hRL7 := hRL6.to tp7 hpr7
  have hDL7 := hDL6.to tp7 hpd7
  have l1 := hq.ln
  have l2 := hq.lv
  have l5 := hp.ln
  have l6 := hp.lr
  have l7 := hp.lo
  have l8 := hp.lm
  refine ⟨_, rfl, .bl b2, .bl b1, rfl, by rw [hbb]; exact lk_sc (.bl _), fun H8 s8 => ⟨_, rfl, ifF rfl ?_⟩⟩
  have hS8 := hS7.same s8
  have hZ8 := hZ7.same s8
  have sX8 := sX7.trans s8
  have hRL8 := hRL7.same s8
  have hDL8 := hDL7.same s8
  have hR8 := (hR6.tp tp7).tp (Same.tp s8)
  obtain ⟨dx8, ha8⟩ := id hS8.ob
  have hSM1 := hlm hfe7
  have hO1 : S1.O = Z1.O := congrArg FS.O hfe7
  refine ⟨_, rfl, a, _, _, rfl, ha8, stf_no _ _ _ _ (by decide +kernel) (by decide +kernel) (by decide +kernel) (by decide +kernel), _, rfl, a, c, v, h, o, ra, S1, r, rfl, hS8, hR8, hok, hq.good, by omega, by omega, by rw [hO1]; omega, by omega, fun b3 H9 S2 hq2 => ?_⟩
  have hZ9 := hZ8.apply hS8 hq2.keep dH dOo dV hdj7
  obtain ⟨hdj9, hBV9, sX9⟩ := step2 hZ8 hdj7 hBV7 sX8 hq2
  have hS9 := hq2.st
  have hfe9 : S2.f = Z1.f := by rw [hq2.f, hq.f, fstep_idem, ← hq.f, hfe7]
  have hb3 : b3 = false := by rw [hq2.ok, hq.pr, okR_no (step_idem _ _)]
  obtain ⟨oR9, hpr9⟩ := oR7.apply hq2 hS8 hRL8.at_
  obtain ⟨oD9, hpd9⟩ := oD7.apply hq2 hS8 hDL8.at_
  have tp9 := hq2.tp hS8
  have hRL9 := hRL8.to tp9 hpr9
  have hDL9 := hDL8.to tp9 hpd9
  have hR9 := hR8.tp tp9
  have m1 := hq2.ln
  have m2 := hq2.lv
  refine ⟨.bl b3, .bl false, rfl, by rw [hb3]; exact lk_sc (.bl _), fun H10 s10 => ⟨_, rfl, ifF rfl ?_⟩⟩
  have hS10 := hS9.same s10
  have hZ10 := hZ9.same s10
  have sX10 := sX9.trans s10
  have hRL10 := hRL9.same s10
  have hDL10 := hDL9.same s10
  have hR10 := hR9.tp (Same.tp s10)
  have rll := hRL10.len
  have dll := hDL10.len
  rw [dbl_len] at dll
  -- records.append(record)
  refine ⟨_, rfl, .inl ⟨rfl, _, SqL.of hRL10.at_⟩, _, rfl, pr, _, _, rfl, rfl, hRL10.at_, szl (by rw [List.length_map]; omega), ?_⟩
  have kr : ∀ b u, H10 b = some u → b ≠ pr → upd H10 pr (.lst (as.map V.ref ++ [.ref ra])) b = some u := fun b u hb hn => by rw [upd_ne hn]; exact hb
  have tr : Tp H10 (upd H10 pr (.lst (as.map V.ref ++ [.ref ra]))) := fun b xs hb => kr _ _ hb fun w => by
    rw [w, hRL10.at_] at hb
    cases hb
  have hRL11 : RL (upd H10 pr (.lst (as.map V.ref ++ [.ref ra]))) pr (as ++ [ra]) (rs ++ [r]) := hRL10.snoc tr (hR10.tp tr) (by rw [upd_same, List.map_append]; rfl)
  have hDL11 : RL (upd H10 pr (.lst (as.map V.ref ++ [.ref ra]))) pd ds (dbl rs) := hDL10.to tr (kr _ _ hDL10.at_ hdp)
  have hS11 := hS10.chg kr hRL10.at_ oR9.s
  have hZ11 := hZ10.chg kr hRL10.at_ (Ne.symm oR9.p) oR9.r
  have sX11 : Same B (upd H10 pr (.lst (as.map V.ref ++ [.ref ra]))) := fun b u hb => kr _ _ (sX10 _ _ hb) (ne_of_none hb Bpr)
  have hR11 := hR10.tp tr
  show tSeq _ _ _ _ (upd H10 pr (.lst (as.map V.ref ++ [.ref ra])))
  generalize upd H10 pr (.lst (as.map V.ref ++ [.ref ra])) = H11 at hRL11 hDL11 hS11 hZ11 sX11 hR11
  -- doubled = doubled + [record, record]
  refine ⟨_, rfl, _, rfl, _, rfl, (by show 2 ≤ sizeLine; decide), fun q nq => ?_⟩
  have sq := same_new (o := .lst [.ref ra, .ref ra]) nq
  refine ⟨pd, q, _, _, rfl, rfl, sq _ _ hDL11.at_, upd_same, szle (by rw [List.length_map]; show ds.length + 2 ≤ _; omega), fun pd2 npd2 => ?_⟩
  have s2' := sq.trans (same_new (o := .lst (ds.map V.ref ++ [.ref ra, .ref ra])) npd2)
  have hpd2 : upd (upd H11 q (.lst [.ref ra, .ref ra])) pd2 (.lst (ds.map V.ref ++ [.ref ra, .ref ra])) pd2 = some (.lst ((ds ++ [ra] ++ [ra]).map V.ref)) := by rw [upd_same, List.map_append, List.map_append, List.append_assoc]; rfl
  have n11 : H11 pd2 = none := sq.free npd2
  have oD12 : Off pd2 pl S2 Z1 := Off.new hS11 hZ11 n11
  have prd2 : pd2 ≠ pr := (ne_of_none hRL11.at_ n11).symm
  have tq := Same.tp s2'
  have hDL12 : RL (upd (upd H11 q (.lst [.ref ra, .ref ra])) pd2 (.lst (ds.map V.ref ++ [.ref ra, .ref ra]))) pd2 (ds ++ [ra] ++ [ra]) (dbl (rs ++ [r])) := by
    rw [dbl_snoc, show dbl rs ++ [r, r] = dbl rs ++ [r] ++ [r] by rw [List.append_assoc]; rfl]
    have hx : RL (fun b => if b = pd2 then some (.lst ((ds ++ [ra]).map V.ref)) else upd (upd H11 q (.lst [.ref ra, .ref ra])) pd2 (.lst (ds.map V.ref ++ [.ref ra, .ref ra])) b) pd2 (ds ++ [ra]) (dbl rs ++ [r]) := by
      have t0 : Tp H11 (fun b => if b = pd2 then some (.lst ((ds ++ [ra]).map V.ref)) else upd (upd H11 q (.lst [.ref ra, .ref ra])) pd2 (.lst (ds.map V.ref ++ [.ref ra, .ref ra])) b) := fun b xs hb => by
        have : b ≠ pd2 := ne_of_none hb n11
        show (if b = pd2 then _ else _) = _
        rw [if_neg this]
        exact tq _ _ hb
      exact hDL11.snoc t0 (hR11.tp t0) (if_pos rfl)
    have t1 : Tp (fun b => if b = pd2 then some (.lst ((ds ++ [ra]).map V.ref)) else upd (upd H11 q (.lst [.ref ra, .ref ra])) pd2 (.lst (ds.map V.ref ++ [.ref ra, .ref ra])) b) (upd (upd H11 q (.lst [.ref ra, .ref ra])) pd2 (.lst (ds.map V.ref ++ [.ref ra, .ref ra]))) := fun b xs hb => by
      have hb : (if b = pd2 then some (HO.lst ((ds ++ [ra]).map V.ref)) else upd (upd H11 q (.lst [.ref ra, .ref ra])) pd2 (.lst (ds.map V.ref ++ [.ref ra, .ref ra])) b) = some (.tup xs) := hb
      by_cases w : b = pd2
      · rw [if_pos w] at hb
        cases hb
      · rw [if_neg w] at hb
        exact hb
    exact hx.snoc t1 (hR11.tp tq) hpd2
  have hRL12 := hRL11.same s2'
  have hS12 := hS11.same s2'
  have hZ12 := hZ11.same s2'
  have sX12 := sX11.trans s2'
  show tSeq _ _ _ _ (upd (upd H11 q (.lst [.ref ra, .ref ra])) pd2 (.lst (ds.map V.ref ++ [.ref ra, .ref ra])))
  generalize upd (upd H11 q (.lst [.ref ra, .ref ra])) pd2 (.lst (ds.map V.ref ++ [.ref ra, .ref ra])) = H12 at hDL12 hRL12 hS12 hZ12 sX12
  have hff12 : Z1.f = fof (rs ++ [r]) := by rw [hp.f, hff, fof_snoc]
  have hnd12 : (gkeys Z1.O).Nodup := by
    rw [hp.no]
    exact nO_nodup hnd rfl
  have hrs12 : ∀ r' ∈ rs ++ [r], recOk r' ∧ recIn ks r' := fun r' h' => by
    rcases List.mem_append.mp h' with z | z
    · exact hrs r' z
    · have : r' = r := by simpa using z
      rw [this]
      exact ⟨hok, hin⟩
  have hrl12 : (rs ++ [r]).length = i + 1 := by rw [List.length_append, hrl]; rfl
  have fin : ∀ {v9 : Option V} {HZ : Hp}, Same H12 HZ → ∃ v6 v7 v8 v9' pd as ds rs, ∃ (S : SS) (Z : PL), [some (V.ref a0), some (.ref pk), some (.ref pl), some (.ref a), some (.ref pr), some (.ref pd2), some (.int (1 + (i : Int))), some (.ref ra), some (.bl b1), v9, none, none, none] = [some (.ref a0), some (.ref pk), some (.ref pl), some (.ref a), some (.ref pr), some (.ref pd), v6, v7, v8, v9', none, none, none] ∧ Same B HZ ∧ StAt T HZ a c v h o S ∧ PlAt HZ pl dh dO dr Z ∧ S.f = Z.f ∧ Z.f = fof rs ∧ Good S.p S.V ∧ (∀ e ∈ S.V, e.2.1 ≠ pl ∧ ∀ e' ∈ Z.R, e.2.1 ≠ e'.2.1) ∧ (∀ e ∈ S.V, B e.2.1 = none) ∧ (S.n ≤ 60 * (i + 1) ∧ S.V.length ≤ 60 * (i + 1)) ∧ (Z.n ≤ 30 * (i + 1) ∧ Z.R.length ≤ 30 * (i + 1) ∧ Z.O.length ≤ i + 1 ∧ Z.M.length ≤ i + 1) ∧ (gkeys Z.O).Nodup ∧ RL HZ pr as rs ∧ RL HZ pd ds (dbl rs) ∧ Off pr pl S Z ∧ Off pd pl S Z ∧ pd ≠ pr ∧ (∀ r ∈ rs, recOk r ∧ recIn ks r) ∧ rs.length = i + 1 := fun sZ => ⟨_, _, _, _, pd2, _, _, _, S2, Z1, rfl, sX12.trans sZ, hS12.same sZ, hZ12.same sZ, hfe9, hff12, hq2.good, hdj9, hBV9, ⟨by omega, by omega⟩, ⟨by omega, by omega, by omega, by omega⟩, hnd12, hRL12.same sZ, hDL12.same sZ, oR9, oD12, prd2, hrs12, hrl12⟩
  refine ⟨_, rfl, _, _, rfl, rfl, by show (0 : Int) < _; decide, rfl, _, rfl, ?_⟩
  refine ite2 (fun _ => ?_) (fun _ => fin (Same.refl _))
  refine ⟨_, rfl, pr, _, rfl, .inl (SqL.of hRL12.at_), fun g ng => ?_⟩
  have sg := same_new (o := .lst ((as ++ [ra]).map V.ref)) ng
  have hGL : RL (upd H12 g (.lst ((as ++ [ra]).map V.ref))) g (as ++ [ra]) (rs ++ [r]) := hRL12.to (Same.tp sg) upd_same
  refine ⟨g, as ++ [ra], rs ++ [r], rfl, hGL, fun r' h' => (hrs12 r' h').1, by omega, fun j => by have := fof_held (rs ++ [r]) j; omega, fun a2 c2 v2 h2 o2 S3 HY sY hSt3 hf3 hn3 hnew3 hnd3 => ?_⟩
  have hZY := (hZ12.same sg).same sY
  have hfe3 : S3.f = Z1.f := by rw [hf3, hff12]
  have hSM3 := hlm hfe3
  have hO3 : S3.O = Z1.O := congrArg FS.O hfe3
  obtain ⟨dx3, ha3⟩ := id hSt3.ob
  refine ⟨_, rfl, _, _, _, _, _, rfl, .own _, T.k_State.ty ha3, kit_self (by simp), _, rfl, ifF rfl ?_⟩
  refine ⟨_, rfl, _, rfl, _, rfl, (by show 5 ≤ sizeLine; decide), fun t nt => ?_⟩
  have st := same_new (o := .lst ([1, 2, 3, 4, 5].map V.int)) nt
  refine ⟨a2, c2, v2, h2, o2, pl, dh, dO, dr, pk, t, S3, Z1, ks, [1, 2, 3, 4, 5], rfl, hSt3.same st, hZY.same st, congrArg FS.p hfe3, hO3, congrArg FS.R hfe3, hnd3, by omega, by rw [hO3]; omega, by omega, (((sX12.trans sg).trans sY).trans st) _ _ hK, upd_same, hkl, fun HZ sZ => ⟨_, rfl, ifF rfl ?_⟩⟩
  exact fin (((sg.trans sY).trans st).trans sZ)

end
theorem all_mk {l : PySem.W.OpenLaw} {w : World} {K : PySem.W.Frag} {h : Heap} {mg : Str → Option Value} {fa C_MeridianError C_BadArgument C_Refused C_Cells C_State f_Cells_init f_Cells_put f_Cells_last_time f_Cells_versions f_Cells_iter f_Cells_contains f_Cells_len f_State_init f_State_floor P_State_floor f_State_settled P_State_settled f_State_apply f_State_held f_State_all_held f_State_outcome f_State_all_outcomes f_State_conflicts f_State__apply_floor f_State__apply_prepare f_State__apply_outcome f_state_of f__have_common f__law_cell f__law_draws f__law_keys f__law_like f__law_store f__law_writes f__law_meets f__law_clash f__law_settled f__law_deal f__law_near f__law_state_right f_law : Addr} (X : K.In h) (G : h.Ns mainGlobals mg) (hfa : mg "law" = some (.ref fa))
    {od_Cells_init an_Cells_init : Option Addr} {sl_Cells_init : Array (Option Value)} {oc_Cells_init kV_Cells_init dc_Cells_init pm_Cells_init cd_Cells_init ct_Cells_init : Value}
    {od_Cells_put an_Cells_put : Option Addr} {sl_Cells_put : Array (Option Value)} {oc_Cells_put kV_Cells_put dc_Cells_put pm_Cells_put cd_Cells_put ct_Cells_put : Value}
    {od_Cells_last_time an_Cells_last_time : Option Addr} {sl_Cells_last_time : Array (Option Value)} {oc_Cells_last_time kV_Cells_last_time dc_Cells_last_time pm_Cells_last_time cd_Cells_last_time ct_Cells_last_time : Value}
    {od_Cells_versions an_Cells_versions : Option Addr} {sl_Cells_versions : Array (Option Value)} {oc_Cells_versions kV_Cells_versions dc_Cells_versions pm_Cells_versions cd_Cells_versions ct_Cells_versions : Value}
    {od_Cells_iter an_Cells_iter : Option Addr} {sl_Cells_iter : Array (Option Value)} {oc_Cells_iter kV_Cells_iter dc_Cells_iter pm_Cells_iter cd_Cells_iter ct_Cells_iter : Value}
    {od_Cells_contains an_Cells_contains : Option Addr} {sl_Cells_contains : Array (Option Value)} {oc_Cells_contains kV_Cells_contains dc_Cells_contains pm_Cells_contains cd_Cells_contains ct_Cells_contains : Value}
    {od_Cells_len an_Cells_len : Option Addr} {sl_Cells_len : Array (Option Value)} {oc_Cells_len kV_Cells_len dc_Cells_len pm_Cells_len cd_Cells_len ct_Cells_len : Value}
    {od_State_init an_State_init : Option Addr} {sl_State_init : Array (Option Value)} {oc_State_init kV_State_init dc_State_init pm_State_init cd_State_init ct_State_init : Value}
    {od_State_floor an_State_floor : Option Addr} {sl_State_floor : Array (Option Value)} {oc_State_floor kV_State_floor dc_State_floor pm_State_floor cd_State_floor ct_State_floor : Value}
    {rest_State_floor : List Value}
    {od_State_settled an_State_settled : Option Addr} {sl_State_settled : Array (Option Value)} {oc_State_settled kV_State_settled dc_State_settled pm_State_settled cd_State_settled ct_State_settled : Value}
    {rest_State_settled : List Value}
    {od_State_apply an_State_apply : Option Addr} {sl_State_apply : Array (Option Value)} {oc_State_apply kV_State_apply dc_State_apply pm_State_apply cd_State_apply ct_State_apply : Value}
    {od_State_held an_State_held : Option Addr} {sl_State_held : Array (Option Value)} {oc_State_held kV_State_held dc_State_held pm_State_held cd_State_held ct_State_held : Value}
    {od_State_all_held an_State_all_held : Option Addr} {sl_State_all_held : Array (Option Value)} {oc_State_all_held kV_State_all_held dc_State_all_held pm_State_all_held cd_State_all_held ct_State_all_held : Value}
    {od_State_outcome an_State_outcome : Option Addr} {sl_State_outcome : Array (Option Value)} {oc_State_outcome kV_State_outcome dc_State_outcome pm_State_outcome cd_State_outcome ct_State_outcome : Value}
    {od_State_all_outcomes an_State_all_outcomes : Option Addr} {sl_State_all_outcomes : Array (Option Value)} {oc_State_all_outcomes kV_State_all_outcomes dc_State_all_outcomes pm_State_all_outcomes cd_State_all_outcomes ct_State_all_outcomes : Value}
    {od_State_conflicts an_State_conflicts : Option Addr} {sl_State_conflicts : Array (Option Value)} {oc_State_conflicts kV_State_conflicts dc_State_conflicts pm_State_conflicts cd_State_conflicts ct_State_conflicts : Value}
    {od_State__apply_floor an_State__apply_floor : Option Addr} {sl_State__apply_floor : Array (Option Value)} {oc_State__apply_floor kV_State__apply_floor dc_State__apply_floor pm_State__apply_floor cd_State__apply_floor ct_State__apply_floor : Value}
    {od_State__apply_prepare an_State__apply_prepare : Option Addr} {sl_State__apply_prepare : Array (Option Value)} {oc_State__apply_prepare kV_State__apply_prepare dc_State__apply_prepare pm_State__apply_prepare cd_State__apply_prepare ct_State__apply_prepare : Value}
    {od_State__apply_outcome an_State__apply_outcome : Option Addr} {sl_State__apply_outcome : Array (Option Value)} {oc_State__apply_outcome kV_State__apply_outcome dc_State__apply_outcome pm_State__apply_outcome cd_State__apply_outcome ct_State__apply_outcome : Value}
    {od_state_of an_state_of : Option Addr} {sl_state_of : Array (Option Value)} {oc_state_of kV_state_of dc_state_of pm_state_of cd_state_of ct_state_of : Value}
    {od__have_common an__have_common : Option Addr} {sl__have_common : Array (Option Value)} {oc__have_common kV__have_common dc__have_common pm__have_common cd__have_common ct__have_common : Value}
    {od__law_cell an__law_cell : Option Addr} {sl__law_cell : Array (Option Value)} {oc__law_cell kV__law_cell dc__law_cell pm__law_cell cd__law_cell ct__law_cell : Value}
    {od__law_draws an__law_draws : Option Addr} {sl__law_draws : Array (Option Value)} {oc__law_draws kV__law_draws dc__law_draws pm__law_draws cd__law_draws ct__law_draws : Value}
    {od__law_keys an__law_keys : Option Addr} {sl__law_keys : Array (Option Value)} {oc__law_keys kV__law_keys dc__law_keys pm__law_keys cd__law_keys ct__law_keys : Value}
    {od__law_like an__law_like : Option Addr} {sl__law_like : Array (Option Value)} {oc__law_like kV__law_like dc__law_like pm__law_like cd__law_like ct__law_like : Value}
    {od__law_store an__law_store : Option Addr} {sl__law_store : Array (Option Value)} {oc__law_store kV__law_store dc__law_store pm__law_store cd__law_store ct__law_store : Value}
    {od__law_writes an__law_writes : Option Addr} {sl__law_writes : Array (Option Value)} {oc__law_writes kV__law_writes dc__law_writes pm__law_writes cd__law_writes ct__law_writes : Value}
    {od__law_meets an__law_meets : Option Addr} {sl__law_meets : Array (Option Value)} {oc__law_meets kV__law_meets dc__law_meets pm__law_meets cd__law_meets ct__law_meets : Value}
    {od__law_clash an__law_clash : Option Addr} {sl__law_clash : Array (Option Value)} {oc__law_clash kV__law_clash dc__law_clash pm__law_clash cd__law_clash ct__law_clash : Value}
    {od__law_settled an__law_settled : Option Addr} {sl__law_settled : Array (Option Value)} {oc__law_settled kV__law_settled dc__law_settled pm__law_settled cd__law_settled ct__law_settled : Value}
    {od__law_deal an__law_deal : Option Addr} {sl__law_deal : Array (Option Value)} {oc__law_deal kV__law_deal dc__law_deal pm__law_deal cd__law_deal ct__law_deal : Value}
    {od__law_near an__law_near : Option Addr} {sl__law_near : Array (Option Value)} {oc__law_near kV__law_near dc__law_near pm__law_near cd__law_near ct__law_near : Value}
    {od__law_state_right an__law_state_right : Option Addr} {sl__law_state_right : Array (Option Value)} {oc__law_state_right kV__law_state_right dc__law_state_right pm__law_state_right cd__law_state_right ct__law_state_right : Value}
    {od_law an_law : Option Addr} {sl_law : Array (Option Value)} {oc_law kV_law dc_law pm_law cd_law ct_law : Value}
    (mg_MeridianError : PySem.W.nsIn K mainGlobals "MeridianError" = some (some (.ref C_MeridianError)))
    (x_MeridianError : PySem.W.excIn K C_MeridianError [.type "ValueError", .type "Exception", .type "BaseException", .type "object"] "ValueError.__new__" = true)
    (kc_MeridianError : PySem.W.keepIn K (.ref C_MeridianError) = true)
    (bp_MeridianError : PySem.W.subIn K (.ref C_MeridianError) (.type "BaseException") = some true)
    (tp_MeridianError : PySem.W.typeIn K (.ref C_MeridianError) = some (.type "type"))
    (ip_MeridianError : PySem.W.isClsIn K C_MeridianError = true)
    (ga_MeridianError : PySem.W.findIn K (.ref C_MeridianError) "__getattribute__" = some (some (.builtin "BaseException.__getattribute__")))
    (gt_MeridianError : PySem.W.findIn K (.ref C_MeridianError) "__getattr__" = some none)
    (hd_MeridianError : PySem.W.hasDictIn K C_MeridianError = true)
    (ca_MeridianError : PySem.W.findIn K (.ref C_MeridianError) "__class__" = some (some (.builtin "object.__class__")))
    (mo_MeridianError : PySem.W.mroIn K C_MeridianError (.type "object") = some true)
    (ve_MeridianError : PySem.W.subIn K (.ref C_MeridianError) (.type "ValueError") = some true)
    (u_MeridianError_MeridianError : PySem.W.subIn K (.ref C_MeridianError) (.ref C_MeridianError) = some true)
    (u_MeridianError_BadArgument : PySem.W.subIn K (.ref C_MeridianError) (.ref C_BadArgument) = some false)
    (u_MeridianError_Refused : PySem.W.subIn K (.ref C_MeridianError) (.ref C_Refused) = some false)
    (mg_BadArgument : PySem.W.nsIn K mainGlobals "BadArgument" = some (some (.ref C_BadArgument)))
    (x_BadArgument : PySem.W.excIn K C_BadArgument [.type "ValueError", .type "Exception", .type "BaseException", .type "object"] "ValueError.__new__" = true)
    (kc_BadArgument : PySem.W.keepIn K (.ref C_BadArgument) = true)
    (bp_BadArgument : PySem.W.subIn K (.ref C_BadArgument) (.type "BaseException") = some true)
    (tp_BadArgument : PySem.W.typeIn K (.ref C_BadArgument) = some (.type "type"))
    (ip_BadArgument : PySem.W.isClsIn K C_BadArgument = true)
    (ga_BadArgument : PySem.W.findIn K (.ref C_BadArgument) "__getattribute__" = some (some (.builtin "BaseException.__getattribute__")))
    (gt_BadArgument : PySem.W.findIn K (.ref C_BadArgument) "__getattr__" = some none)
    (hd_BadArgument : PySem.W.hasDictIn K C_BadArgument = true)
    (ca_BadArgument : PySem.W.findIn K (.ref C_BadArgument) "__class__" = some (some (.builtin "object.__class__")))
    (mo_BadArgument : PySem.W.mroIn K C_BadArgument (.type "object") = some true)
    (ve_BadArgument : PySem.W.subIn K (.ref C_BadArgument) (.type "ValueError") = some true)
    (u_BadArgument_MeridianError : PySem.W.subIn K (.ref C_BadArgument) (.ref C_MeridianError) = some true)
    (u_BadArgument_BadArgument : PySem.W.subIn K (.ref C_BadArgument) (.ref C_BadArgument) = some true)
    (u_BadArgument_Refused : PySem.W.subIn K (.ref C_BadArgument) (.ref C_Refused) = some false)
    (mg_Refused : PySem.W.nsIn K mainGlobals "Refused" = some (some (.ref C_Refused)))
    (x_Refused : PySem.W.excIn K C_Refused [.type "ValueError", .type "Exception", .type "BaseException", .type "object"] "ValueError.__new__" = true)
    (kc_Refused : PySem.W.keepIn K (.ref C_Refused) = true)
    (bp_Refused : PySem.W.subIn K (.ref C_Refused) (.type "BaseException") = some true)
    (tp_Refused : PySem.W.typeIn K (.ref C_Refused) = some (.type "type"))
    (ip_Refused : PySem.W.isClsIn K C_Refused = true)
    (ga_Refused : PySem.W.findIn K (.ref C_Refused) "__getattribute__" = some (some (.builtin "BaseException.__getattribute__")))
    (gt_Refused : PySem.W.findIn K (.ref C_Refused) "__getattr__" = some none)
    (hd_Refused : PySem.W.hasDictIn K C_Refused = true)
    (ca_Refused : PySem.W.findIn K (.ref C_Refused) "__class__" = some (some (.builtin "object.__class__")))
    (mo_Refused : PySem.W.mroIn K C_Refused (.type "object") = some true)
    (ve_Refused : PySem.W.subIn K (.ref C_Refused) (.type "ValueError") = some true)
    (u_Refused_MeridianError : PySem.W.subIn K (.ref C_Refused) (.ref C_MeridianError) = some true)
    (u_Refused_BadArgument : PySem.W.subIn K (.ref C_Refused) (.ref C_BadArgument) = some false)
    (u_Refused_Refused : PySem.W.subIn K (.ref C_Refused) (.ref C_Refused) = some true)
    (cn : PySem.W.specialIn K (.builtin "object.__class__") "__get__" = some (some (.builtin "getset_descriptor.__get__")))
    (ct : PySem.W.takesIn K (.builtin "object.__class__") = some true)
    (mg_Cells : PySem.W.nsIn K mainGlobals "Cells" = some (some (.ref C_Cells)))
    (pg_Cells : PySem.W.plainGet K C_Cells Str.empty = true)
    (hd_Cells : PySem.W.hasDictIn K C_Cells = true)
    (po_Cells : PySem.W.plainOver K C_Cells = true)
    (sa_Cells : PySem.W.findIn K (.ref C_Cells) "__setattr__" = some (some (.builtin "object.__setattr__")))
    (mk_Cells : PySem.W.makesIn K C_Cells = true)
    (kc_Cells : PySem.W.keepIn K (.ref C_Cells) = true)
    (ca_Cells : PySem.W.findIn K (.ref C_Cells) "__class__" = some (some (.builtin "object.__class__")))
    (mo_Cells : PySem.W.mroIn K C_Cells (.type "object") = some true)
    (na_Cells__versions : PySem.W.findIn K (.ref C_Cells) "_versions" = some none)
    (mg_State : PySem.W.nsIn K mainGlobals "State" = some (some (.ref C_State)))
    (pg_State : PySem.W.plainGet K C_State Str.empty = true)
    (hd_State : PySem.W.hasDictIn K C_State = true)
    (po_State : PySem.W.plainOver K C_State = true)
    (sa_State : PySem.W.findIn K (.ref C_State) "__setattr__" = some (some (.builtin "object.__setattr__")))
    (mk_State : PySem.W.makesIn K C_State = true)
    (kc_State : PySem.W.keepIn K (.ref C_State) = true)
    (ca_State : PySem.W.findIn K (.ref C_State) "__class__" = some (some (.builtin "object.__class__")))
    (mo_State : PySem.W.mroIn K C_State (.type "object") = some true)
    (na_State_cells : PySem.W.findIn K (.ref C_State) "cells" = some none)
    (na_State__floor : PySem.W.findIn K (.ref C_State) "_floor" = some none)
    (na_State__held : PySem.W.findIn K (.ref C_State) "_held" = some none)
    (na_State__outcomes : PySem.W.findIn K (.ref C_State) "_outcomes" = some none)
    (a_Cells_init : PySem.W.findIn K (.ref C_Cells) "__init__" = some (some (.ref f_Cells_init)))
    (i_Cells_init : PySem.W.isFn K (.ref f_Cells_init) = true)
    (l_Cells_init : K.lookup f_Cells_init = some ⟨oc_Cells_init, od_Cells_init, .func (PySem.W.fnOf "__init__" "Cells.__init__" (defArgs s_Cells_init) (defBody s_Cells_init) (defScope s_Cells_init) .none kV_Cells_init dc_Cells_init pm_Cells_init an_Cells_init cd_Cells_init ct_Cells_init), sl_Cells_init⟩)
    (c_Cells_init : PySem.W.codeIn K cd_Cells_init "Cells.__init__" = true)
    (k_Cells_init : PySem.W.keepIn K (.ref f_Cells_init) = true)
    (a_Cells_put : PySem.W.findIn K (.ref C_Cells) "put" = some (some (.ref f_Cells_put)))
    (i_Cells_put : PySem.W.isFn K (.ref f_Cells_put) = true)
    (l_Cells_put : K.lookup f_Cells_put = some ⟨oc_Cells_put, od_Cells_put, .func (PySem.W.fnOf "put" "Cells.put" (defArgs s_Cells_put) (defBody s_Cells_put) (defScope s_Cells_put) .none kV_Cells_put dc_Cells_put pm_Cells_put an_Cells_put cd_Cells_put ct_Cells_put), sl_Cells_put⟩)
    (c_Cells_put : PySem.W.codeIn K cd_Cells_put "Cells.put" = true)
    (k_Cells_put : PySem.W.keepIn K (.ref f_Cells_put) = true)
    (a_Cells_last_time : PySem.W.findIn K (.ref C_Cells) "last_time" = some (some (.ref f_Cells_last_time)))
    (i_Cells_last_time : PySem.W.isFn K (.ref f_Cells_last_time) = true)
    (l_Cells_last_time : K.lookup f_Cells_last_time = some ⟨oc_Cells_last_time, od_Cells_last_time, .func (PySem.W.fnOf "last_time" "Cells.last_time" (defArgs s_Cells_last_time) (defBody s_Cells_last_time) (defScope s_Cells_last_time) .none kV_Cells_last_time dc_Cells_last_time pm_Cells_last_time an_Cells_last_time cd_Cells_last_time ct_Cells_last_time), sl_Cells_last_time⟩)
    (c_Cells_last_time : PySem.W.codeIn K cd_Cells_last_time "Cells.last_time" = true)
    (k_Cells_last_time : PySem.W.keepIn K (.ref f_Cells_last_time) = true)
    (a_Cells_versions : PySem.W.findIn K (.ref C_Cells) "versions" = some (some (.ref f_Cells_versions)))
    (i_Cells_versions : PySem.W.isFn K (.ref f_Cells_versions) = true)
    (l_Cells_versions : K.lookup f_Cells_versions = some ⟨oc_Cells_versions, od_Cells_versions, .func (PySem.W.fnOf "versions" "Cells.versions" (defArgs s_Cells_versions) (defBody s_Cells_versions) (defScope s_Cells_versions) .none kV_Cells_versions dc_Cells_versions pm_Cells_versions an_Cells_versions cd_Cells_versions ct_Cells_versions), sl_Cells_versions⟩)
    (c_Cells_versions : PySem.W.codeIn K cd_Cells_versions "Cells.versions" = true)
    (k_Cells_versions : PySem.W.keepIn K (.ref f_Cells_versions) = true)
    (a_Cells_iter : PySem.W.findIn K (.ref C_Cells) "__iter__" = some (some (.ref f_Cells_iter)))
    (i_Cells_iter : PySem.W.isFn K (.ref f_Cells_iter) = true)
    (l_Cells_iter : K.lookup f_Cells_iter = some ⟨oc_Cells_iter, od_Cells_iter, .func (PySem.W.fnOf "__iter__" "Cells.__iter__" (defArgs s_Cells_iter) (defBody s_Cells_iter) (defScope s_Cells_iter) .none kV_Cells_iter dc_Cells_iter pm_Cells_iter an_Cells_iter cd_Cells_iter ct_Cells_iter), sl_Cells_iter⟩)
    (c_Cells_iter : PySem.W.codeIn K cd_Cells_iter "Cells.__iter__" = true)
    (k_Cells_iter : PySem.W.keepIn K (.ref f_Cells_iter) = true)
    (a_Cells_contains : PySem.W.findIn K (.ref C_Cells) "__contains__" = some (some (.ref f_Cells_contains)))
    (i_Cells_contains : PySem.W.isFn K (.ref f_Cells_contains) = true)
    (l_Cells_contains : K.lookup f_Cells_contains = some ⟨oc_Cells_contains, od_Cells_contains, .func (PySem.W.fnOf "__contains__" "Cells.__contains__" (defArgs s_Cells_contains) (defBody s_Cells_contains) (defScope s_Cells_contains) .none kV_Cells_contains dc_Cells_contains pm_Cells_contains an_Cells_contains cd_Cells_contains ct_Cells_contains), sl_Cells_contains⟩)
    (c_Cells_contains : PySem.W.codeIn K cd_Cells_contains "Cells.__contains__" = true)
    (k_Cells_contains : PySem.W.keepIn K (.ref f_Cells_contains) = true)
    (a_Cells_len : PySem.W.findIn K (.ref C_Cells) "__len__" = some (some (.ref f_Cells_len)))
    (i_Cells_len : PySem.W.isFn K (.ref f_Cells_len) = true)
    (l_Cells_len : K.lookup f_Cells_len = some ⟨oc_Cells_len, od_Cells_len, .func (PySem.W.fnOf "__len__" "Cells.__len__" (defArgs s_Cells_len) (defBody s_Cells_len) (defScope s_Cells_len) .none kV_Cells_len dc_Cells_len pm_Cells_len an_Cells_len cd_Cells_len ct_Cells_len), sl_Cells_len⟩)
    (c_Cells_len : PySem.W.codeIn K cd_Cells_len "Cells.__len__" = true)
    (k_Cells_len : PySem.W.keepIn K (.ref f_Cells_len) = true)
    (a_State_init : PySem.W.findIn K (.ref C_State) "__init__" = some (some (.ref f_State_init)))
    (i_State_init : PySem.W.isFn K (.ref f_State_init) = true)
    (l_State_init : K.lookup f_State_init = some ⟨oc_State_init, od_State_init, .func (PySem.W.fnOf "__init__" "State.__init__" (defArgs s_State_init) (defBody s_State_init) (defScope s_State_init) .none kV_State_init dc_State_init pm_State_init an_State_init cd_State_init ct_State_init), sl_State_init⟩)
    (c_State_init : PySem.W.codeIn K cd_State_init "State.__init__" = true)
    (k_State_init : PySem.W.keepIn K (.ref f_State_init) = true)
    (a_State_floor : PySem.W.findIn K (.ref C_State) "floor" = some (some (.ref P_State_floor)))
    (pt_State_floor : PySem.W.specialIn K (.ref P_State_floor) "__get__" = some (some (.builtin "property.__get__")))
    (pk_State_floor : PySem.W.takesIn K (.ref P_State_floor) = some true)
    (pr_State_floor : PySem.W.recIn K P_State_floor "property" = some (.ref f_State_floor :: rest_State_floor))
    (l_State_floor : K.lookup f_State_floor = some ⟨oc_State_floor, od_State_floor, .func (PySem.W.fnOf "floor" "State.floor" (defArgs s_State_floor) (defBody s_State_floor) (defScope s_State_floor) .none kV_State_floor dc_State_floor pm_State_floor an_State_floor cd_State_floor ct_State_floor), sl_State_floor⟩)
    (c_State_floor : PySem.W.codeIn K cd_State_floor "State.floor" = true)
    (k_State_floor : PySem.W.keepIn K (.ref f_State_floor) = true)
    (a_State_settled : PySem.W.findIn K (.ref C_State) "settled" = some (some (.ref P_State_settled)))
    (pt_State_settled : PySem.W.specialIn K (.ref P_State_settled) "__get__" = some (some (.builtin "property.__get__")))
    (pk_State_settled : PySem.W.takesIn K (.ref P_State_settled) = some true)
    (pr_State_settled : PySem.W.recIn K P_State_settled "property" = some (.ref f_State_settled :: rest_State_settled))
    (l_State_settled : K.lookup f_State_settled = some ⟨oc_State_settled, od_State_settled, .func (PySem.W.fnOf "settled" "State.settled" (defArgs s_State_settled) (defBody s_State_settled) (defScope s_State_settled) .none kV_State_settled dc_State_settled pm_State_settled an_State_settled cd_State_settled ct_State_settled), sl_State_settled⟩)
    (c_State_settled : PySem.W.codeIn K cd_State_settled "State.settled" = true)
    (k_State_settled : PySem.W.keepIn K (.ref f_State_settled) = true)
    (a_State_apply : PySem.W.findIn K (.ref C_State) "apply" = some (some (.ref f_State_apply)))
    (i_State_apply : PySem.W.isFn K (.ref f_State_apply) = true)
    (l_State_apply : K.lookup f_State_apply = some ⟨oc_State_apply, od_State_apply, .func (PySem.W.fnOf "apply" "State.apply" (defArgs s_State_apply) (defBody s_State_apply) (defScope s_State_apply) .none kV_State_apply dc_State_apply pm_State_apply an_State_apply cd_State_apply ct_State_apply), sl_State_apply⟩)
    (c_State_apply : PySem.W.codeIn K cd_State_apply "State.apply" = true)
    (k_State_apply : PySem.W.keepIn K (.ref f_State_apply) = true)
    (a_State_held : PySem.W.findIn K (.ref C_State) "held" = some (some (.ref f_State_held)))
    (i_State_held : PySem.W.isFn K (.ref f_State_held) = true)
    (l_State_held : K.lookup f_State_held = some ⟨oc_State_held, od_State_held, .func (PySem.W.fnOf "held" "State.held" (defArgs s_State_held) (defBody s_State_held) (defScope s_State_held) .none kV_State_held dc_State_held pm_State_held an_State_held cd_State_held ct_State_held), sl_State_held⟩)
    (c_State_held : PySem.W.codeIn K cd_State_held "State.held" = true)
    (k_State_held : PySem.W.keepIn K (.ref f_State_held) = true)
    (a_State_all_held : PySem.W.findIn K (.ref C_State) "all_held" = some (some (.ref f_State_all_held)))
    (i_State_all_held : PySem.W.isFn K (.ref f_State_all_held) = true)
    (l_State_all_held : K.lookup f_State_all_held = some ⟨oc_State_all_held, od_State_all_held, .func (PySem.W.fnOf "all_held" "State.all_held" (defArgs s_State_all_held) (defBody s_State_all_held) (defScope s_State_all_held) .none kV_State_all_held dc_State_all_held pm_State_all_held an_State_all_held cd_State_all_held ct_State_all_held), sl_State_all_held⟩)
    (c_State_all_held : PySem.W.codeIn K cd_State_all_held "State.all_held" = true)
    (k_State_all_held : PySem.W.keepIn K (.ref f_State_all_held) = true)
    (a_State_outcome : PySem.W.findIn K (.ref C_State) "outcome" = some (some (.ref f_State_outcome)))
    (i_State_outcome : PySem.W.isFn K (.ref f_State_outcome) = true)
    (l_State_outcome : K.lookup f_State_outcome = some ⟨oc_State_outcome, od_State_outcome, .func (PySem.W.fnOf "outcome" "State.outcome" (defArgs s_State_outcome) (defBody s_State_outcome) (defScope s_State_outcome) .none kV_State_outcome dc_State_outcome pm_State_outcome an_State_outcome cd_State_outcome ct_State_outcome), sl_State_outcome⟩)
    (c_State_outcome : PySem.W.codeIn K cd_State_outcome "State.outcome" = true)
    (k_State_outcome : PySem.W.keepIn K (.ref f_State_outcome) = true)
    (a_State_all_outcomes : PySem.W.findIn K (.ref C_State) "all_outcomes" = some (some (.ref f_State_all_outcomes)))
    (i_State_all_outcomes : PySem.W.isFn K (.ref f_State_all_outcomes) = true)
    (l_State_all_outcomes : K.lookup f_State_all_outcomes = some ⟨oc_State_all_outcomes, od_State_all_outcomes, .func (PySem.W.fnOf "all_outcomes" "State.all_outcomes" (defArgs s_State_all_outcomes) (defBody s_State_all_outcomes) (defScope s_State_all_outcomes) .none kV_State_all_outcomes dc_State_all_outcomes pm_State_all_outcomes an_State_all_outcomes cd_State_all_outcomes ct_State_all_outcomes), sl_State_all_outcomes⟩)
    (c_State_all_outcomes : PySem.W.codeIn K cd_State_all_outcomes "State.all_outcomes" = true)
    (k_State_all_outcomes : PySem.W.keepIn K (.ref f_State_all_outcomes) = true)
    (a_State_conflicts : PySem.W.findIn K (.ref C_State) "conflicts" = some (some (.ref f_State_conflicts)))
    (i_State_conflicts : PySem.W.isFn K (.ref f_State_conflicts) = true)
    (l_State_conflicts : K.lookup f_State_conflicts = some ⟨oc_State_conflicts, od_State_conflicts, .func (PySem.W.fnOf "conflicts" "State.conflicts" (defArgs s_State_conflicts) (defBody s_State_conflicts) (defScope s_State_conflicts) .none kV_State_conflicts dc_State_conflicts pm_State_conflicts an_State_conflicts cd_State_conflicts ct_State_conflicts), sl_State_conflicts⟩)
    (c_State_conflicts : PySem.W.codeIn K cd_State_conflicts "State.conflicts" = true)
    (k_State_conflicts : PySem.W.keepIn K (.ref f_State_conflicts) = true)
    (a_State__apply_floor : PySem.W.findIn K (.ref C_State) "_apply_floor" = some (some (.ref f_State__apply_floor)))
    (i_State__apply_floor : PySem.W.isFn K (.ref f_State__apply_floor) = true)
    (l_State__apply_floor : K.lookup f_State__apply_floor = some ⟨oc_State__apply_floor, od_State__apply_floor, .func (PySem.W.fnOf "_apply_floor" "State._apply_floor" (defArgs s_State__apply_floor) (defBody s_State__apply_floor) (defScope s_State__apply_floor) .none kV_State__apply_floor dc_State__apply_floor pm_State__apply_floor an_State__apply_floor cd_State__apply_floor ct_State__apply_floor), sl_State__apply_floor⟩)
    (c_State__apply_floor : PySem.W.codeIn K cd_State__apply_floor "State._apply_floor" = true)
    (k_State__apply_floor : PySem.W.keepIn K (.ref f_State__apply_floor) = true)
    (a_State__apply_prepare : PySem.W.findIn K (.ref C_State) "_apply_prepare" = some (some (.ref f_State__apply_prepare)))
    (i_State__apply_prepare : PySem.W.isFn K (.ref f_State__apply_prepare) = true)
    (l_State__apply_prepare : K.lookup f_State__apply_prepare = some ⟨oc_State__apply_prepare, od_State__apply_prepare, .func (PySem.W.fnOf "_apply_prepare" "State._apply_prepare" (defArgs s_State__apply_prepare) (defBody s_State__apply_prepare) (defScope s_State__apply_prepare) .none kV_State__apply_prepare dc_State__apply_prepare pm_State__apply_prepare an_State__apply_prepare cd_State__apply_prepare ct_State__apply_prepare), sl_State__apply_prepare⟩)
    (c_State__apply_prepare : PySem.W.codeIn K cd_State__apply_prepare "State._apply_prepare" = true)
    (k_State__apply_prepare : PySem.W.keepIn K (.ref f_State__apply_prepare) = true)
    (a_State__apply_outcome : PySem.W.findIn K (.ref C_State) "_apply_outcome" = some (some (.ref f_State__apply_outcome)))
    (i_State__apply_outcome : PySem.W.isFn K (.ref f_State__apply_outcome) = true)
    (l_State__apply_outcome : K.lookup f_State__apply_outcome = some ⟨oc_State__apply_outcome, od_State__apply_outcome, .func (PySem.W.fnOf "_apply_outcome" "State._apply_outcome" (defArgs s_State__apply_outcome) (defBody s_State__apply_outcome) (defScope s_State__apply_outcome) .none kV_State__apply_outcome dc_State__apply_outcome pm_State__apply_outcome an_State__apply_outcome cd_State__apply_outcome ct_State__apply_outcome), sl_State__apply_outcome⟩)
    (c_State__apply_outcome : PySem.W.codeIn K cd_State__apply_outcome "State._apply_outcome" = true)
    (k_State__apply_outcome : PySem.W.keepIn K (.ref f_State__apply_outcome) = true)
    (a_state_of : PySem.W.nsIn K mainGlobals "state_of" = some (some (.ref f_state_of)))
    (l_state_of : K.lookup f_state_of = some ⟨oc_state_of, od_state_of, .func (PySem.W.fnOf "state_of" "state_of" (defArgs s_state_of) (defBody s_state_of) (defScope s_state_of) .none kV_state_of dc_state_of pm_state_of an_state_of cd_state_of ct_state_of), sl_state_of⟩)
    (c_state_of : PySem.W.codeIn K cd_state_of "state_of" = true)
    (k_state_of : PySem.W.keepIn K (.ref f_state_of) = true)
    (a__have_common : PySem.W.nsIn K mainGlobals "_have_common" = some (some (.ref f__have_common)))
    (l__have_common : K.lookup f__have_common = some ⟨oc__have_common, od__have_common, .func (PySem.W.fnOf "_have_common" "_have_common" (defArgs s__have_common) (defBody s__have_common) (defScope s__have_common) .none kV__have_common dc__have_common pm__have_common an__have_common cd__have_common ct__have_common), sl__have_common⟩)
    (c__have_common : PySem.W.codeIn K cd__have_common "_have_common" = true)
    (k__have_common : PySem.W.keepIn K (.ref f__have_common) = true)
    (a__law_cell : PySem.W.nsIn K mainGlobals "_law_cell" = some (some (.ref f__law_cell)))
    (l__law_cell : K.lookup f__law_cell = some ⟨oc__law_cell, od__law_cell, .func (PySem.W.fnOf "_law_cell" "_law_cell" (defArgs s__law_cell) (defBody s__law_cell) (defScope s__law_cell) .none kV__law_cell dc__law_cell pm__law_cell an__law_cell cd__law_cell ct__law_cell), sl__law_cell⟩)
    (c__law_cell : PySem.W.codeIn K cd__law_cell "_law_cell" = true)
    (k__law_cell : PySem.W.keepIn K (.ref f__law_cell) = true)
    (a__law_draws : PySem.W.nsIn K mainGlobals "_law_draws" = some (some (.ref f__law_draws)))
    (l__law_draws : K.lookup f__law_draws = some ⟨oc__law_draws, od__law_draws, .func (PySem.W.fnOf "_law_draws" "_law_draws" (defArgs s__law_draws) (defBody s__law_draws) (defScope s__law_draws) .none kV__law_draws dc__law_draws pm__law_draws an__law_draws cd__law_draws ct__law_draws), sl__law_draws⟩)
    (c__law_draws : PySem.W.codeIn K cd__law_draws "_law_draws" = true)
    (k__law_draws : PySem.W.keepIn K (.ref f__law_draws) = true)
    (a__law_keys : PySem.W.nsIn K mainGlobals "_law_keys" = some (some (.ref f__law_keys)))
    (l__law_keys : K.lookup f__law_keys = some ⟨oc__law_keys, od__law_keys, .func (PySem.W.fnOf "_law_keys" "_law_keys" (defArgs s__law_keys) (defBody s__law_keys) (defScope s__law_keys) .none kV__law_keys dc__law_keys pm__law_keys an__law_keys cd__law_keys ct__law_keys), sl__law_keys⟩)
    (c__law_keys : PySem.W.codeIn K cd__law_keys "_law_keys" = true)
    (k__law_keys : PySem.W.keepIn K (.ref f__law_keys) = true)
    (a__law_like : PySem.W.nsIn K mainGlobals "_law_like" = some (some (.ref f__law_like)))
    (l__law_like : K.lookup f__law_like = some ⟨oc__law_like, od__law_like, .func (PySem.W.fnOf "_law_like" "_law_like" (defArgs s__law_like) (defBody s__law_like) (defScope s__law_like) .none kV__law_like dc__law_like pm__law_like an__law_like cd__law_like ct__law_like), sl__law_like⟩)
    (c__law_like : PySem.W.codeIn K cd__law_like "_law_like" = true)
    (k__law_like : PySem.W.keepIn K (.ref f__law_like) = true)
    (a__law_store : PySem.W.nsIn K mainGlobals "_law_store" = some (some (.ref f__law_store)))
    (l__law_store : K.lookup f__law_store = some ⟨oc__law_store, od__law_store, .func (PySem.W.fnOf "_law_store" "_law_store" (defArgs s__law_store) (defBody s__law_store) (defScope s__law_store) .none kV__law_store dc__law_store pm__law_store an__law_store cd__law_store ct__law_store), sl__law_store⟩)
    (c__law_store : PySem.W.codeIn K cd__law_store "_law_store" = true)
    (k__law_store : PySem.W.keepIn K (.ref f__law_store) = true)
    (a__law_writes : PySem.W.nsIn K mainGlobals "_law_writes" = some (some (.ref f__law_writes)))
    (l__law_writes : K.lookup f__law_writes = some ⟨oc__law_writes, od__law_writes, .func (PySem.W.fnOf "_law_writes" "_law_writes" (defArgs s__law_writes) (defBody s__law_writes) (defScope s__law_writes) .none kV__law_writes dc__law_writes pm__law_writes an__law_writes cd__law_writes ct__law_writes), sl__law_writes⟩)
    (c__law_writes : PySem.W.codeIn K cd__law_writes "_law_writes" = true)
    (k__law_writes : PySem.W.keepIn K (.ref f__law_writes) = true)
    (a__law_meets : PySem.W.nsIn K mainGlobals "_law_meets" = some (some (.ref f__law_meets)))
    (l__law_meets : K.lookup f__law_meets = some ⟨oc__law_meets, od__law_meets, .func (PySem.W.fnOf "_law_meets" "_law_meets" (defArgs s__law_meets) (defBody s__law_meets) (defScope s__law_meets) .none kV__law_meets dc__law_meets pm__law_meets an__law_meets cd__law_meets ct__law_meets), sl__law_meets⟩)
    (c__law_meets : PySem.W.codeIn K cd__law_meets "_law_meets" = true)
    (k__law_meets : PySem.W.keepIn K (.ref f__law_meets) = true)
    (a__law_clash : PySem.W.nsIn K mainGlobals "_law_clash" = some (some (.ref f__law_clash)))
    (l__law_clash : K.lookup f__law_clash = some ⟨oc__law_clash, od__law_clash, .func (PySem.W.fnOf "_law_clash" "_law_clash" (defArgs s__law_clash) (defBody s__law_clash) (defScope s__law_clash) .none kV__law_clash dc__law_clash pm__law_clash an__law_clash cd__law_clash ct__law_clash), sl__law_clash⟩)
    (c__law_clash : PySem.W.codeIn K cd__law_clash "_law_clash" = true)
    (k__law_clash : PySem.W.keepIn K (.ref f__law_clash) = true)
    (a__law_settled : PySem.W.nsIn K mainGlobals "_law_settled" = some (some (.ref f__law_settled)))
    (l__law_settled : K.lookup f__law_settled = some ⟨oc__law_settled, od__law_settled, .func (PySem.W.fnOf "_law_settled" "_law_settled" (defArgs s__law_settled) (defBody s__law_settled) (defScope s__law_settled) .none kV__law_settled dc__law_settled pm__law_settled an__law_settled cd__law_settled ct__law_settled), sl__law_settled⟩)
    (c__law_settled : PySem.W.codeIn K cd__law_settled "_law_settled" = true)
    (k__law_settled : PySem.W.keepIn K (.ref f__law_settled) = true)
    (a__law_deal : PySem.W.nsIn K mainGlobals "_law_deal" = some (some (.ref f__law_deal)))
    (l__law_deal : K.lookup f__law_deal = some ⟨oc__law_deal, od__law_deal, .func (PySem.W.fnOf "_law_deal" "_law_deal" (defArgs s__law_deal) (defBody s__law_deal) (defScope s__law_deal) .none kV__law_deal dc__law_deal pm__law_deal an__law_deal cd__law_deal ct__law_deal), sl__law_deal⟩)
    (c__law_deal : PySem.W.codeIn K cd__law_deal "_law_deal" = true)
    (k__law_deal : PySem.W.keepIn K (.ref f__law_deal) = true)
    (a__law_near : PySem.W.nsIn K mainGlobals "_law_near" = some (some (.ref f__law_near)))
    (l__law_near : K.lookup f__law_near = some ⟨oc__law_near, od__law_near, .func (PySem.W.fnOf "_law_near" "_law_near" (defArgs s__law_near) (defBody s__law_near) (defScope s__law_near) .none kV__law_near dc__law_near pm__law_near an__law_near cd__law_near ct__law_near), sl__law_near⟩)
    (c__law_near : PySem.W.codeIn K cd__law_near "_law_near" = true)
    (k__law_near : PySem.W.keepIn K (.ref f__law_near) = true)
    (a__law_state_right : PySem.W.nsIn K mainGlobals "_law_state_right" = some (some (.ref f__law_state_right)))
    (l__law_state_right : K.lookup f__law_state_right = some ⟨oc__law_state_right, od__law_state_right, .func (PySem.W.fnOf "_law_state_right" "_law_state_right" (defArgs s__law_state_right) (defBody s__law_state_right) (defScope s__law_state_right) .none kV__law_state_right dc__law_state_right pm__law_state_right an__law_state_right cd__law_state_right ct__law_state_right), sl__law_state_right⟩)
    (c__law_state_right : PySem.W.codeIn K cd__law_state_right "_law_state_right" = true)
    (k__law_state_right : PySem.W.keepIn K (.ref f__law_state_right) = true)
    (a_law : PySem.W.nsIn K mainGlobals "law" = some (some (.ref f_law)))
    (l_law : K.lookup f_law = some ⟨oc_law, od_law, .func (PySem.W.fnOf "law" "law" (defArgs s_law) (defBody s_law) (defScope s_law) .none kV_law dc_law pm_law an_law cd_law ct_law), sl_law⟩)
    (c_law : PySem.W.codeIn K cd_law "law" = true)
    (k_law : PySem.W.keepIn K (.ref f_law) = true)
    (z_list : PySem.W.nsIn K mainGlobals "list" = some none)
    (z_iter : PySem.W.nsIn K mainGlobals "iter" = some none)
    (z_len : PySem.W.nsIn K mainGlobals "len" = some none)
    (z_property : PySem.W.nsIn K mainGlobals "property" = some none)
    (z_min : PySem.W.nsIn K mainGlobals "min" = some none)
    (z_sorted : PySem.W.nsIn K mainGlobals "sorted" = some none)
    (z_max : PySem.W.nsIn K mainGlobals "max" = some none)
    (z_abs : PySem.W.nsIn K mainGlobals "abs" = some none)
    (z_int : PySem.W.nsIn K mainGlobals "int" = some none)
    (z_range : PySem.W.nsIn K mainGlobals "range" = some none)
    (z_isinstance : PySem.W.nsIn K mainGlobals "isinstance" = some none)
    (z_bool : PySem.W.nsIn K mainGlobals "bool" = some none)
    (z_str : PySem.W.nsIn K mainGlobals "str" = some none)
    (z_all : PySem.W.nsIn K mainGlobals "all" = some none)
    (z_tuple : PySem.W.nsIn K mainGlobals "tuple" = some none)
    (z_any : PySem.W.nsIn K mainGlobals "any" = some none) :
    ∃ fd : FuncData, (∀ (s : Shared) (v : Value), BindsTo s fd ⟨[v], []⟩ [("script", v)]) ∧ ∀ base : Heap, K.In base → base.Ns mainGlobals mg → FnOk l.prog w K mg base CX0 9 fa fd ["script"] (spLaw K) := by
  have e : f_law = fa := (Value.ref.inj (Option.some.inj (hfa.symm.trans (PySem.W.mg_of X G a_law)))).symm
  subst e
  let T : Env K mg := {
    c_MeridianError := C_MeridianError,
    c_BadArgument := C_BadArgument,
    c_Refused := C_Refused,
    a_Cells := C_Cells,
    a_State := C_State,
    a_Cells_init := f_Cells_init,
    d_Cells_init := _,
    F_Cells_init := fun_mk (st := s_Cells_init) l_Cells_init c_Cells_init k_Cells_init,
    b_Cells_init := (fun_mk (st := s_Cells_init) l_Cells_init c_Cells_init k_Cells_init).binds (ps := ["self"]) fun _ _ _ _ _ _ us hl => match us, hl with | [_], _ => rfl,
    a_Cells_put := f_Cells_put,
    d_Cells_put := _,
    F_Cells_put := fun_mk (st := s_Cells_put) l_Cells_put c_Cells_put k_Cells_put,
    b_Cells_put := (fun_mk (st := s_Cells_put) l_Cells_put c_Cells_put k_Cells_put).binds (ps := ["self", "time", "writes"]) fun _ _ _ _ _ _ us hl => match us, hl with | [_, _, _], _ => rfl,
    a_Cells_last_time := f_Cells_last_time,
    d_Cells_last_time := _,
    F_Cells_last_time := fun_mk (st := s_Cells_last_time) l_Cells_last_time c_Cells_last_time k_Cells_last_time,
    b_Cells_last_time := (fun_mk (st := s_Cells_last_time) l_Cells_last_time c_Cells_last_time k_Cells_last_time).binds (ps := ["self", "key"]) fun _ _ _ _ _ _ us hl => match us, hl with | [_, _], _ => rfl,
    a_Cells_versions := f_Cells_versions,
    d_Cells_versions := _,
    F_Cells_versions := fun_mk (st := s_Cells_versions) l_Cells_versions c_Cells_versions k_Cells_versions,
    b_Cells_versions := (fun_mk (st := s_Cells_versions) l_Cells_versions c_Cells_versions k_Cells_versions).binds (ps := ["self", "key"]) fun _ _ _ _ _ _ us hl => match us, hl with | [_, _], _ => rfl,
    a_Cells_iter := f_Cells_iter,
    d_Cells_iter := _,
    F_Cells_iter := fun_mk (st := s_Cells_iter) l_Cells_iter c_Cells_iter k_Cells_iter,
    b_Cells_iter := (fun_mk (st := s_Cells_iter) l_Cells_iter c_Cells_iter k_Cells_iter).binds (ps := ["self"]) fun _ _ _ _ _ _ us hl => match us, hl with | [_], _ => rfl,
    a_Cells_contains := f_Cells_contains,
    d_Cells_contains := _,
    F_Cells_contains := fun_mk (st := s_Cells_contains) l_Cells_contains c_Cells_contains k_Cells_contains,
    b_Cells_contains := (fun_mk (st := s_Cells_contains) l_Cells_contains c_Cells_contains k_Cells_contains).binds (ps := ["self", "key"]) fun _ _ _ _ _ _ us hl => match us, hl with | [_, _], _ => rfl,
    a_Cells_len := f_Cells_len,
    d_Cells_len := _,
    F_Cells_len := fun_mk (st := s_Cells_len) l_Cells_len c_Cells_len k_Cells_len,
    b_Cells_len := (fun_mk (st := s_Cells_len) l_Cells_len c_Cells_len k_Cells_len).binds (ps := ["self"]) fun _ _ _ _ _ _ us hl => match us, hl with | [_], _ => rfl,
    a_State_init := f_State_init,
    d_State_init := _,
    F_State_init := fun_mk (st := s_State_init) l_State_init c_State_init k_State_init,
    b_State_init := (fun_mk (st := s_State_init) l_State_init c_State_init k_State_init).binds (ps := ["self"]) fun _ _ _ _ _ _ us hl => match us, hl with | [_], _ => rfl,
    a_State_floor := f_State_floor,
    d_State_floor := _,
    F_State_floor := fun_mk (st := s_State_floor) l_State_floor c_State_floor k_State_floor,
    b_State_floor := (fun_mk (st := s_State_floor) l_State_floor c_State_floor k_State_floor).binds (ps := ["self"]) fun _ _ _ _ _ _ us hl => match us, hl with | [_], _ => rfl,
    a_State_settled := f_State_settled,
    d_State_settled := _,
    F_State_settled := fun_mk (st := s_State_settled) l_State_settled c_State_settled k_State_settled,
    b_State_settled := (fun_mk (st := s_State_settled) l_State_settled c_State_settled k_State_settled).binds (ps := ["self"]) fun _ _ _ _ _ _ us hl => match us, hl with | [_], _ => rfl,
    a_State_apply := f_State_apply,
    d_State_apply := _,
    F_State_apply := fun_mk (st := s_State_apply) l_State_apply c_State_apply k_State_apply,
    b_State_apply := (fun_mk (st := s_State_apply) l_State_apply c_State_apply k_State_apply).binds (ps := ["self", "record"]) fun _ _ _ _ _ _ us hl => match us, hl with | [_, _], _ => rfl,
    a_State_held := f_State_held,
    d_State_held := _,
    F_State_held := fun_mk (st := s_State_held) l_State_held c_State_held k_State_held,
    b_State_held := (fun_mk (st := s_State_held) l_State_held c_State_held k_State_held).binds (ps := ["self", "txn"]) fun _ _ _ _ _ _ us hl => match us, hl with | [_, _], _ => rfl,
    a_State_all_held := f_State_all_held,
    d_State_all_held := _,
    F_State_all_held := fun_mk (st := s_State_all_held) l_State_all_held c_State_all_held k_State_all_held,
    b_State_all_held := (fun_mk (st := s_State_all_held) l_State_all_held c_State_all_held k_State_all_held).binds (ps := ["self"]) fun _ _ _ _ _ _ us hl => match us, hl with | [_], _ => rfl,
    a_State_outcome := f_State_outcome,
    d_State_outcome := _,
    F_State_outcome := fun_mk (st := s_State_outcome) l_State_outcome c_State_outcome k_State_outcome,
    b_State_outcome := (fun_mk (st := s_State_outcome) l_State_outcome c_State_outcome k_State_outcome).binds (ps := ["self", "txn"]) fun _ _ _ _ _ _ us hl => match us, hl with | [_, _], _ => rfl,
    a_State_all_outcomes := f_State_all_outcomes,
    d_State_all_outcomes := _,
    F_State_all_outcomes := fun_mk (st := s_State_all_outcomes) l_State_all_outcomes c_State_all_outcomes k_State_all_outcomes,
    b_State_all_outcomes := (fun_mk (st := s_State_all_outcomes) l_State_all_outcomes c_State_all_outcomes k_State_all_outcomes).binds (ps := ["self"]) fun _ _ _ _ _ _ us hl => match us, hl with | [_], _ => rfl,
    a_State_conflicts := f_State_conflicts,
    d_State_conflicts := _,
    F_State_conflicts := fun_mk (st := s_State_conflicts) l_State_conflicts c_State_conflicts k_State_conflicts,
    b_State_conflicts := (fun_mk (st := s_State_conflicts) l_State_conflicts c_State_conflicts k_State_conflicts).binds (ps := ["self", "reads", "writes"]) fun _ _ _ _ _ _ us hl => match us, hl with | [_, _, _], _ => rfl,
    a_State__apply_floor := f_State__apply_floor,
    d_State__apply_floor := _,
    F_State__apply_floor := fun_mk (st := s_State__apply_floor) l_State__apply_floor c_State__apply_floor k_State__apply_floor,
    b_State__apply_floor := (fun_mk (st := s_State__apply_floor) l_State__apply_floor c_State__apply_floor k_State__apply_floor).binds (ps := ["self", "time"]) fun _ _ _ _ _ _ us hl => match us, hl with | [_, _], _ => rfl,
    a_State__apply_prepare := f_State__apply_prepare,
    d_State__apply_prepare := _,
    F_State__apply_prepare := fun_mk (st := s_State__apply_prepare) l_State__apply_prepare c_State__apply_prepare k_State__apply_prepare,
    b_State__apply_prepare := (fun_mk (st := s_State__apply_prepare) l_State__apply_prepare c_State__apply_prepare k_State__apply_prepare).binds (ps := ["self", "record"]) fun _ _ _ _ _ _ us hl => match us, hl with | [_, _], _ => rfl,
    a_State__apply_outcome := f_State__apply_outcome,
    d_State__apply_outcome := _,
    F_State__apply_outcome := fun_mk (st := s_State__apply_outcome) l_State__apply_outcome c_State__apply_outcome k_State__apply_outcome,
    b_State__apply_outcome := (fun_mk (st := s_State__apply_outcome) l_State__apply_outcome c_State__apply_outcome k_State__apply_outcome).binds (ps := ["self", "txn", "time"]) fun _ _ _ _ _ _ us hl => match us, hl with | [_, _, _], _ => rfl,
    a_state_of := f_state_of,
    d_state_of := _,
    F_state_of := fun_mk (st := s_state_of) l_state_of c_state_of k_state_of,
    b_state_of := (fun_mk (st := s_state_of) l_state_of c_state_of k_state_of).binds (ps := ["records"]) fun _ _ _ _ _ _ us hl => match us, hl with | [_], _ => rfl,
    g_state_of := PySem.W.mg_of X G a_state_of,
    a__have_common := f__have_common,
    d__have_common := _,
    F__have_common := fun_mk (st := s__have_common) l__have_common c__have_common k__have_common,
    b__have_common := (fun_mk (st := s__have_common) l__have_common c__have_common k__have_common).binds (ps := ["keys", "others"]) fun _ _ _ _ _ _ us hl => match us, hl with | [_, _], _ => rfl,
    g__have_common := PySem.W.mg_of X G a__have_common,
    a__law_cell := f__law_cell,
    d__law_cell := _,
    F__law_cell := fun_mk (st := s__law_cell) l__law_cell c__law_cell k__law_cell,
    b__law_cell := (fun_mk (st := s__law_cell) l__law_cell c__law_cell k__law_cell).binds (ps := ["script", "k"]) fun _ _ _ _ _ _ us hl => match us, hl with | [_, _], _ => rfl,
    g__law_cell := PySem.W.mg_of X G a__law_cell,
    a__law_draws := f__law_draws,
    d__law_draws := _,
    F__law_draws := fun_mk (st := s__law_draws) l__law_draws c__law_draws k__law_draws,
    b__law_draws := (fun_mk (st := s__law_draws) l__law_draws c__law_draws k__law_draws).binds (ps := ["cell", "many", "limit"]) fun _ _ _ _ _ _ us hl => match us, hl with | [_, _, _], _ => rfl,
    g__law_draws := PySem.W.mg_of X G a__law_draws,
    a__law_keys := f__law_keys,
    d__law_keys := _,
    F__law_keys := fun_mk (st := s__law_keys) l__law_keys c__law_keys k__law_keys,
    b__law_keys := (fun_mk (st := s__law_keys) l__law_keys c__law_keys k__law_keys).binds (ps := ["cell"]) fun _ _ _ _ _ _ us hl => match us, hl with | [_], _ => rfl,
    g__law_keys := PySem.W.mg_of X G a__law_keys,
    a__law_like := f__law_like,
    d__law_like := _,
    F__law_like := fun_mk (st := s__law_like) l__law_like c__law_like k__law_like,
    b__law_like := (fun_mk (st := s__law_like) l__law_like c__law_like k__law_like).binds (ps := ["actual", "due"]) fun _ _ _ _ _ _ us hl => match us, hl with | [_, _], _ => rfl,
    g__law_like := PySem.W.mg_of X G a__law_like,
    a__law_store := f__law_store,
    d__law_store := _,
    F__law_store := fun_mk (st := s__law_store) l__law_store c__law_store k__law_store,
    b__law_store := (fun_mk (st := s__law_store) l__law_store c__law_store k__law_store).binds (ps := ["rows", "time", "writes"]) fun _ _ _ _ _ _ us hl => match us, hl with | [_, _, _], _ => rfl,
    g__law_store := PySem.W.mg_of X G a__law_store,
    a__law_writes := f__law_writes,
    d__law_writes := _,
    F__law_writes := fun_mk (st := s__law_writes) l__law_writes c__law_writes k__law_writes,
    b__law_writes := (fun_mk (st := s__law_writes) l__law_writes c__law_writes k__law_writes).binds (ps := ["numbers", "keys"]) fun _ _ _ _ _ _ us hl => match us, hl with | [_, _], _ => rfl,
    g__law_writes := PySem.W.mg_of X G a__law_writes,
    a__law_meets := f__law_meets,
    d__law_meets := _,
    F__law_meets := fun_mk (st := s__law_meets) l__law_meets c__law_meets k__law_meets,
    b__law_meets := (fun_mk (st := s__law_meets) l__law_meets c__law_meets k__law_meets).binds (ps := ["reads", "writes", "held"]) fun _ _ _ _ _ _ us hl => match us, hl with | [_, _, _], _ => rfl,
    g__law_meets := PySem.W.mg_of X G a__law_meets,
    a__law_clash := f__law_clash,
    d__law_clash := _,
    F__law_clash := fun_mk (st := s__law_clash) l__law_clash c__law_clash k__law_clash,
    b__law_clash := (fun_mk (st := s__law_clash) l__law_clash c__law_clash k__law_clash).binds (ps := ["plain", "reads", "writes"]) fun _ _ _ _ _ _ us hl => match us, hl with | [_, _, _], _ => rfl,
    g__law_clash := PySem.W.mg_of X G a__law_clash,
    a__law_settled := f__law_settled,
    d__law_settled := _,
    F__law_settled := fun_mk (st := s__law_settled) l__law_settled c__law_settled k__law_settled,
    b__law_settled := (fun_mk (st := s__law_settled) l__law_settled c__law_settled k__law_settled).binds (ps := ["plain"]) fun _ _ _ _ _ _ us hl => match us, hl with | [_], _ => rfl,
    g__law_settled := PySem.W.mg_of X G a__law_settled,
    a__law_deal := f__law_deal,
    d__law_deal := _,
    F__law_deal := fun_mk (st := s__law_deal) l__law_deal c__law_deal k__law_deal,
    b__law_deal := (fun_mk (st := s__law_deal) l__law_deal c__law_deal k__law_deal).binds (ps := ["plain", "record"]) fun _ _ _ _ _ _ us hl => match us, hl with | [_, _], _ => rfl,
    g__law_deal := PySem.W.mg_of X G a__law_deal,
    a__law_near := f__law_near,
    d__law_near := _,
    F__law_near := fun_mk (st := s__law_near) l__law_near c__law_near k__law_near,
    b__law_near := (fun_mk (st := s__law_near) l__law_near c__law_near k__law_near).binds (ps := ["numbers", "keys", "floor", "scale"]) fun _ _ _ _ _ _ us hl => match us, hl with | [_, _, _, _], _ => rfl,
    g__law_near := PySem.W.mg_of X G a__law_near,
    a__law_state_right := f__law_state_right,
    d__law_state_right := _,
    F__law_state_right := fun_mk (st := s__law_state_right) l__law_state_right c__law_state_right k__law_state_right,
    b__law_state_right := (fun_mk (st := s__law_state_right) l__law_state_right c__law_state_right k__law_state_right).binds (ps := ["state", "plain", "keys", "txns"]) fun _ _ _ _ _ _ us hl => match us, hl with | [_, _, _, _], _ => rfl,
    g__law_state_right := PySem.W.mg_of X G a__law_state_right,
    a_law := f_law,
    d_law := _,
    F_law := fun_mk (st := s_law) l_law c_law k_law,
    b_law := (fun_mk (st := s_law) l_law c_law k_law).binds (ps := ["script"]) fun _ _ _ _ _ _ us hl => match us, hl with | [_], _ => rfl,
    e_MeridianError := ⟨PySem.W.mg_of X G mg_MeridianError, x_MeridianError, kc_MeridianError, bp_MeridianError, tp_MeridianError, ip_MeridianError, ⟨ga_MeridianError, gt_MeridianError, bp_MeridianError, hd_MeridianError, ca_MeridianError, cn, ct, mo_MeridianError⟩, kit_ty_sub ve_MeridianError (by decide +kernel)⟩,
    u_MeridianError_MeridianError := PySem.W.exm_ref bp_MeridianError hd_MeridianError tp_MeridianError u_MeridianError_MeridianError,
    q_MeridianError_MeridianError := kit_own u_MeridianError_MeridianError u_MeridianError_MeridianError ip_MeridianError tp_MeridianError,
    u_MeridianError_BadArgument := PySem.W.exm_ref bp_BadArgument hd_BadArgument tp_BadArgument u_MeridianError_BadArgument,
    q_MeridianError_BadArgument := kit_own u_MeridianError_BadArgument u_MeridianError_MeridianError ip_BadArgument tp_BadArgument,
    u_MeridianError_Refused := PySem.W.exm_ref bp_Refused hd_Refused tp_Refused u_MeridianError_Refused,
    q_MeridianError_Refused := kit_own u_MeridianError_Refused u_MeridianError_MeridianError ip_Refused tp_Refused,
    e_BadArgument := ⟨PySem.W.mg_of X G mg_BadArgument, x_BadArgument, kc_BadArgument, bp_BadArgument, tp_BadArgument, ip_BadArgument, ⟨ga_BadArgument, gt_BadArgument, bp_BadArgument, hd_BadArgument, ca_BadArgument, cn, ct, mo_BadArgument⟩, kit_ty_sub ve_BadArgument (by decide +kernel)⟩,
    u_BadArgument_MeridianError := PySem.W.exm_ref bp_MeridianError hd_MeridianError tp_MeridianError u_BadArgument_MeridianError,
    q_BadArgument_MeridianError := kit_own u_BadArgument_MeridianError u_BadArgument_BadArgument ip_MeridianError tp_MeridianError,
    u_BadArgument_BadArgument := PySem.W.exm_ref bp_BadArgument hd_BadArgument tp_BadArgument u_BadArgument_BadArgument,
    q_BadArgument_BadArgument := kit_own u_BadArgument_BadArgument u_BadArgument_BadArgument ip_BadArgument tp_BadArgument,
    u_BadArgument_Refused := PySem.W.exm_ref bp_Refused hd_Refused tp_Refused u_BadArgument_Refused,
    q_BadArgument_Refused := kit_own u_BadArgument_Refused u_BadArgument_BadArgument ip_Refused tp_Refused,
    e_Refused := ⟨PySem.W.mg_of X G mg_Refused, x_Refused, kc_Refused, bp_Refused, tp_Refused, ip_Refused, ⟨ga_Refused, gt_Refused, bp_Refused, hd_Refused, ca_Refused, cn, ct, mo_Refused⟩, kit_ty_sub ve_Refused (by decide +kernel)⟩,
    u_Refused_MeridianError := PySem.W.exm_ref bp_MeridianError hd_MeridianError tp_MeridianError u_Refused_MeridianError,
    q_Refused_MeridianError := kit_own u_Refused_MeridianError u_Refused_Refused ip_MeridianError tp_MeridianError,
    u_Refused_BadArgument := PySem.W.exm_ref bp_BadArgument hd_BadArgument tp_BadArgument u_Refused_BadArgument,
    q_Refused_BadArgument := kit_own u_Refused_BadArgument u_Refused_Refused ip_BadArgument tp_BadArgument,
    u_Refused_Refused := PySem.W.exm_ref bp_Refused hd_Refused tp_Refused u_Refused_Refused,
    q_Refused_Refused := kit_own u_Refused_Refused u_Refused_Refused ip_Refused tp_Refused,
    k_Cells := ⟨⟨pg_Cells, hd_Cells, po_Cells, sa_Cells⟩, PySem.W.mg_of X G mg_Cells, ca_Cells, cn, ct, mo_Cells⟩,
    n_Cells__versions := na_Cells__versions,
    M_Cells := ⟨mk_Cells, a_Cells_init, i_Cells_init, kc_Cells⟩,
    m_Cells_put := ⟨a_Cells_put, i_Cells_put, k_Cells_put⟩,
    m_Cells_last_time := ⟨a_Cells_last_time, i_Cells_last_time, k_Cells_last_time⟩,
    m_Cells_versions := ⟨a_Cells_versions, i_Cells_versions, k_Cells_versions⟩,
    m_Cells_iter := ⟨a_Cells_iter, i_Cells_iter, k_Cells_iter⟩,
    m_Cells_contains := ⟨a_Cells_contains, i_Cells_contains, k_Cells_contains⟩,
    m_Cells_len := ⟨a_Cells_len, i_Cells_len, k_Cells_len⟩,
    k_State := ⟨⟨pg_State, hd_State, po_State, sa_State⟩, PySem.W.mg_of X G mg_State, ca_State, cn, ct, mo_State⟩,
    n_State_cells := na_State_cells,
    n_State__floor := na_State__floor,
    n_State__held := na_State__held,
    n_State__outcomes := na_State__outcomes,
    M_State := ⟨mk_State, a_State_init, i_State_init, kc_State⟩,
    p_State_floor := P_State_floor,
    m_State_floor := ⟨a_State_floor, pt_State_floor, pk_State_floor, ⟨_, pr_State_floor⟩⟩,
    p_State_settled := P_State_settled,
    m_State_settled := ⟨a_State_settled, pt_State_settled, pk_State_settled, ⟨_, pr_State_settled⟩⟩,
    m_State_apply := ⟨a_State_apply, i_State_apply, k_State_apply⟩,
    m_State_held := ⟨a_State_held, i_State_held, k_State_held⟩,
    m_State_all_held := ⟨a_State_all_held, i_State_all_held, k_State_all_held⟩,
    m_State_outcome := ⟨a_State_outcome, i_State_outcome, k_State_outcome⟩,
    m_State_all_outcomes := ⟨a_State_all_outcomes, i_State_all_outcomes, k_State_all_outcomes⟩,
    m_State_conflicts := ⟨a_State_conflicts, i_State_conflicts, k_State_conflicts⟩,
    m_State__apply_floor := ⟨a_State__apply_floor, i_State__apply_floor, k_State__apply_floor⟩,
    m_State__apply_prepare := ⟨a_State__apply_prepare, i_State__apply_prepare, k_State__apply_prepare⟩,
    m_State__apply_outcome := ⟨a_State__apply_outcome, i_State__apply_outcome, k_State__apply_outcome⟩,
    z_list := PySem.W.mg_none_of X G z_list,
    z_iter := PySem.W.mg_none_of X G z_iter,
    z_len := PySem.W.mg_none_of X G z_len,
    z_property := PySem.W.mg_none_of X G z_property,
    z_min := PySem.W.mg_none_of X G z_min,
    z_sorted := PySem.W.mg_none_of X G z_sorted,
    z_max := PySem.W.mg_none_of X G z_max,
    z_abs := PySem.W.mg_none_of X G z_abs,
    z_int := PySem.W.mg_none_of X G z_int,
    z_range := PySem.W.mg_none_of X G z_range,
    z_isinstance := PySem.W.mg_none_of X G z_isinstance,
    z_bool := PySem.W.mg_none_of X G z_bool,
    z_str := PySem.W.mg_none_of X G z_str,
    z_all := PySem.W.mg_none_of X G z_all,
    z_tuple := PySem.W.mg_none_of X G z_tuple,
    z_any := PySem.W.mg_none_of X G z_any }
  exact ⟨PySem.W.fnOf "law" "law" (defArgs s_law) (defBody s_law) (defScope s_law) .none kV_law dc_law pm_law an_law cd_law ct_law, fun s v => .of_eq rfl, fun base _ _ => ok_law T⟩
theorem walk {l : PySem.W.OpenLaw} {q : Program} {loose : List Str} {XP : (Str → Option Value) → Heap → Prop} {YP : World → Heap → Prop} {d : DefRec} {K : Params → PySem.W.Frag} (hn : l.most = some 63) (hdf : d.params.defaults = [])
    (hY : ∀ (w : World) (h : Heap), YP w h → (K w.params).In h)
    (F : ∀ (w : World) (mg : Str → Option Value) (fa : Addr) (h : Heap), (K w.params).In h → h.Ns mainGlobals mg → mg d.name = some (.ref fa) →
      ∃ fd : FuncData, (∀ (s : Shared) (u : Value), BindsTo s fd ⟨[u], []⟩ [("script", u)]) ∧ ∀ base : Heap, (K w.params).In base → base.Ns mainGlobals mg → FnOk l.prog w (K w.params) mg base CX0 9 fa fd ["script"] (spLaw (K w.params))) :
    PySem.W.WalkO q loose XP YP l.row.toRowW d [] (fun f vs => PySem.call f vs) :=
  L2.walk_of (n := 63) (k := 9) (x := "script") (CX := fun _ => CX0) (sp := fun w => spLaw (K w.params)) hn (by decide) hdf ⟨rfl, by decide, by decide⟩ hY F (fun _ _ a ns hl _ hS => ⟨a, ns, rfl, hS, hl, fun _ => rfl⟩) fun _ _ _ _ _ z => z
end Dv
open PySem PySem.W PyProof.Rows in
set_option maxRecDepth 100000 in
set_option maxHeartbeats 0 in
theorem PySem.Challenge.cw_meridian_k46_state_of_lists_holds : PySem.Challenge.rw_meridian_k46_state_of_lists.Holds := by
  w_on; o_law; k_head; (case hw => w_witness2)
  k_fill
  refine Dv.walk (l := PySem.Challenge.rw_meridian_k46_state_of_lists) rfl rfl (fun w h Y => PySem.W.kIn_of Y) ?F
  case F =>
    intro w mg fa h KX G hmg
    refine' Dv.all_mk KX G hmg ?mg_MeridianError ?x_MeridianError ?kc_MeridianError ?bp_MeridianError ?tp_MeridianError ?ip_MeridianError ?ga_MeridianError ?gt_MeridianError ?hd_MeridianError ?ca_MeridianError ?mo_MeridianError ?ve_MeridianError ?u_MeridianError_MeridianError ?u_MeridianError_BadArgument ?u_MeridianError_Refused ?mg_BadArgument ?x_BadArgument ?kc_BadArgument ?bp_BadArgument ?tp_BadArgument ?ip_BadArgument ?ga_BadArgument ?gt_BadArgument ?hd_BadArgument ?ca_BadArgument ?mo_BadArgument ?ve_BadArgument ?u_BadArgument_MeridianError ?u_BadArgument_BadArgument ?u_BadArgument_Refused ?mg_Refused ?x_Refused ?kc_Refused ?bp_Refused ?tp_Refused ?ip_Refused ?ga_Refused ?gt_Refused ?hd_Refused ?ca_Refused ?mo_Refused ?ve_Refused ?u_Refused_MeridianError ?u_Refused_BadArgument ?u_Refused_Refused ?cn ?ct ?mg_Cells ?pg_Cells ?hd_Cells ?po_Cells ?sa_Cells ?mk_Cells ?kc_Cells ?ca_Cells ?mo_Cells ?na_Cells__versions ?mg_State ?pg_State ?hd_State ?po_State ?sa_State ?mk_State ?kc_State ?ca_State ?mo_State ?na_State_cells ?na_State__floor ?na_State__held ?na_State__outcomes ?a_Cells_init ?i_Cells_init ?l_Cells_init ?c_Cells_init ?k_Cells_init ?a_Cells_put ?i_Cells_put ?l_Cells_put ?c_Cells_put ?k_Cells_put ?a_Cells_last_time ?i_Cells_last_time ?l_Cells_last_time ?c_Cells_last_time ?k_Cells_last_time ?a_Cells_versions ?i_Cells_versions ?l_Cells_versions ?c_Cells_versions ?k_Cells_versions ?a_Cells_iter ?i_Cells_iter ?l_Cells_iter ?c_Cells_iter ?k_Cells_iter ?a_Cells_contains ?i_Cells_contains ?l_Cells_contains ?c_Cells_contains ?k_Cells_contains ?a_Cells_len ?i_Cells_len ?l_Cells_len ?c_Cells_len ?k_Cells_len ?a_State_init ?i_State_init ?l_State_init ?c_State_init ?k_State_init ?a_State_floor ?pt_State_floor ?pk_State_floor ?pr_State_floor ?l_State_floor ?c_State_floor ?k_State_floor ?a_State_settled ?pt_State_settled ?pk_State_settled ?pr_State_settled ?l_State_settled ?c_State_settled ?k_State_settled ?a_State_apply ?i_State_apply ?l_State_apply ?c_State_apply ?k_State_apply ?a_State_held ?i_State_held ?l_State_held ?c_State_held ?k_State_held ?a_State_all_held ?i_State_all_held ?l_State_all_held ?c_State_all_held ?k_State_all_held ?a_State_outcome ?i_State_outcome ?l_State_outcome ?c_State_outcome ?k_State_outcome ?a_State_all_outcomes ?i_State_all_outcomes ?l_State_all_outcomes ?c_State_all_outcomes ?k_State_all_outcomes ?a_State_conflicts ?i_State_conflicts ?l_State_conflicts ?c_State_conflicts ?k_State_conflicts ?a_State__apply_floor ?i_State__apply_floor ?l_State__apply_floor ?c_State__apply_floor ?k_State__apply_floor ?a_State__apply_prepare ?i_State__apply_prepare ?l_State__apply_prepare ?c_State__apply_prepare ?k_State__apply_prepare ?a_State__apply_outcome ?i_State__apply_outcome ?l_State__apply_outcome ?c_State__apply_outcome ?k_State__apply_outcome ?a_state_of ?l_state_of ?c_state_of ?k_state_of ?a__have_common ?l__have_common ?c__have_common ?k__have_common ?a__law_cell ?l__law_cell ?c__law_cell ?k__law_cell ?a__law_draws ?l__law_draws ?c__law_draws ?k__law_draws ?a__law_keys ?l__law_keys ?c__law_keys ?k__law_keys ?a__law_like ?l__law_like ?c__law_like ?k__law_like ?a__law_store ?l__law_store ?c__law_store ?k__law_store ?a__law_writes ?l__law_writes ?c__law_writes ?k__law_writes ?a__law_meets ?l__law_meets ?c__law_meets ?k__law_meets ?a__law_clash ?l__law_clash ?c__law_clash ?k__law_clash ?a__law_settled ?l__law_settled ?c__law_settled ?k__law_settled ?a__law_deal ?l__law_deal ?c__law_deal ?k__law_deal ?a__law_near ?l__law_near ?c__law_near ?k__law_near ?a__law_state_right ?l__law_state_right ?c__law_state_right ?k__law_state_right ?a_law ?l_law ?c_law ?k_law ?z_list ?z_iter ?z_len ?z_property ?z_min ?z_sorted ?z_max ?z_abs ?z_int ?z_range ?z_isinstance ?z_bool ?z_str ?z_all ?z_tuple ?z_any
    (case mg_MeridianError => k_is)
    (case mg_BadArgument => k_is)
    (case mg_Refused => k_is)
    (case mg_Cells => k_is)
    (case mg_State => k_is)
    (case a_Cells_init => k_is)
    (case a_Cells_put => k_is)
    (case a_Cells_last_time => k_is)
    (case a_Cells_versions => k_is)
    (case a_Cells_iter => k_is)
    (case a_Cells_contains => k_is)
    (case a_Cells_len => k_is)
    (case a_State_init => k_is)
    (case a_State_floor => k_is)
    (case a_State_settled => k_is)
    (case a_State_apply => k_is)
    (case a_State_held => k_is)
    (case a_State_all_held => k_is)
    (case a_State_outcome => k_is)
    (case a_State_all_outcomes => k_is)
    (case a_State_conflicts => k_is)
    (case a_State__apply_floor => k_is)
    (case a_State__apply_prepare => k_is)
    (case a_State__apply_outcome => k_is)
    (case a_state_of => k_is)
    (case a__have_common => k_is)
    (case a__law_cell => k_is)
    (case a__law_draws => k_is)
    (case a__law_keys => k_is)
    (case a__law_like => k_is)
    (case a__law_store => k_is)
    (case a__law_writes => k_is)
    (case a__law_meets => k_is)
    (case a__law_clash => k_is)
    (case a__law_settled => k_is)
    (case a__law_deal => k_is)
    (case a__law_near => k_is)
    (case a__law_state_right => k_is)
    (case a_law => k_is)
    (case pr_State_floor => k_is)
    (case pr_State_settled => k_is)
    (case x_MeridianError => k_exc)
    (case kc_MeridianError => k_is)
    (case bp_MeridianError => k_is)
    (case tp_MeridianError => k_is)
    (case ip_MeridianError => k_is)
    (case ga_MeridianError => k_is)
    (case gt_MeridianError => k_is)
    (case hd_MeridianError => k_is)
    (case ca_MeridianError => k_is)
    (case mo_MeridianError => k_is)
    (case ve_MeridianError => k_is)
    (case u_MeridianError_MeridianError => k_is)
    (case u_MeridianError_BadArgument => k_is)
    (case u_MeridianError_Refused => k_is)
    (case x_BadArgument => k_exc)
    (case kc_BadArgument => k_is)
    (case bp_BadArgument => k_is)
    (case tp_BadArgument => k_is)
    (case ip_BadArgument => k_is)
    (case ga_BadArgument => k_is)
    (case gt_BadArgument => k_is)
    (case hd_BadArgument => k_is)
    (case ca_BadArgument => k_is)
    (case mo_BadArgument => k_is)
    (case ve_BadArgument => k_is)
    (case u_BadArgument_MeridianError => k_is)
    (case u_BadArgument_BadArgument => k_is)
    (case u_BadArgument_Refused => k_is)
    (case x_Refused => k_exc)
    (case kc_Refused => k_is)
    (case bp_Refused => k_is)
    (case tp_Refused => k_is)
    (case ip_Refused => k_is)
    (case ga_Refused => k_is)
    (case gt_Refused => k_is)
    (case hd_Refused => k_is)
    (case ca_Refused => k_is)
    (case mo_Refused => k_is)
    (case ve_Refused => k_is)
    (case u_Refused_MeridianError => k_is)
    (case u_Refused_BadArgument => k_is)
    (case u_Refused_Refused => k_is)
    (case cn => k_is)
    (case ct => k_is)
    (case pg_Cells => k_is)
    (case hd_Cells => k_is)
    (case po_Cells => k_is)
    (case sa_Cells => k_is)
    (case mk_Cells => k_is)
    (case kc_Cells => k_is)
    (case ca_Cells => k_is)
    (case mo_Cells => k_is)
    (case na_Cells__versions => k_is)
    (case pg_State => k_is)
    (case hd_State => k_is)
    (case po_State => k_is)
    (case sa_State => k_is)
    (case mk_State => k_is)
    (case kc_State => k_is)
    (case ca_State => k_is)
    (case mo_State => k_is)
    (case na_State_cells => k_is)
    (case na_State__floor => k_is)
    (case na_State__held => k_is)
    (case na_State__outcomes => k_is)
    (case i_Cells_init => k_is)
    (case l_Cells_init => k_is)
    (case c_Cells_init => k_is)
    (case k_Cells_init => k_is)
    (case i_Cells_put => k_is)
    (case l_Cells_put => k_is)
    (case c_Cells_put => k_is)
    (case k_Cells_put => k_is)
    (case i_Cells_last_time => k_is)
    (case l_Cells_last_time => k_is)
    (case c_Cells_last_time => k_is)
    (case k_Cells_last_time => k_is)
    (case i_Cells_versions => k_is)
    (case l_Cells_versions => k_is)
    (case c_Cells_versions => k_is)
    (case k_Cells_versions => k_is)
    (case i_Cells_iter => k_is)
    (case l_Cells_iter => k_is)
    (case c_Cells_iter => k_is)
    (case k_Cells_iter => k_is)
    (case i_Cells_contains => k_is)
    (case l_Cells_contains => k_is)
    (case c_Cells_contains => k_is)
    (case k_Cells_contains => k_is)
    (case i_Cells_len => k_is)
    (case l_Cells_len => k_is)
    (case c_Cells_len => k_is)
    (case k_Cells_len => k_is)
    (case i_State_init => k_is)
    (case l_State_init => k_is)
    (case c_State_init => k_is)
    (case k_State_init => k_is)
    (case pt_State_floor => k_is)
    (case pk_State_floor => k_is)
    (case l_State_floor => k_is)
    (case c_State_floor => k_is)
    (case k_State_floor => k_is)
    (case pt_State_settled => k_is)
    (case pk_State_settled => k_is)
    (case l_State_settled => k_is)
    (case c_State_settled => k_is)
    (case k_State_settled => k_is)
    (case i_State_apply => k_is)
    (case l_State_apply => k_is)
    (case c_State_apply => k_is)
    (case k_State_apply => k_is)
    (case i_State_held => k_is)
    (case l_State_held => k_is)
    (case c_State_held => k_is)
    (case k_State_held => k_is)
    (case i_State_all_held => k_is)
    (case l_State_all_held => k_is)
    (case c_State_all_held => k_is)
    (case k_State_all_held => k_is)
    (case i_State_outcome => k_is)
    (case l_State_outcome => k_is)
    (case c_State_outcome => k_is)
    (case k_State_outcome => k_is)
    (case i_State_all_outcomes => k_is)
    (case l_State_all_outcomes => k_is)
    (case c_State_all_outcomes => k_is)
    (case k_State_all_outcomes => k_is)
    (case i_State_conflicts => k_is)
    (case l_State_conflicts => k_is)
    (case c_State_conflicts => k_is)
    (case k_State_conflicts => k_is)
    (case i_State__apply_floor => k_is)
    (case l_State__apply_floor => k_is)
    (case c_State__apply_floor => k_is)
    (case k_State__apply_floor => k_is)
    (case i_State__apply_prepare => k_is)
    (case l_State__apply_prepare => k_is)
    (case c_State__apply_prepare => k_is)
    (case k_State__apply_prepare => k_is)
    (case i_State__apply_outcome => k_is)
    (case l_State__apply_outcome => k_is)
    (case c_State__apply_outcome => k_is)
    (case k_State__apply_outcome => k_is)
    (case l_state_of => k_is)
    (case c_state_of => k_is)
    (case k_state_of => k_is)
    (case l__have_common => k_is)
    (case c__have_common => k_is)
    (case k__have_common => k_is)
    (case l__law_cell => k_is)
    (case c__law_cell => k_is)
    (case k__law_cell => k_is)
    (case l__law_draws => k_is)
    (case c__law_draws => k_is)
    (case k__law_draws => k_is)
    (case l__law_keys => k_is)
    (case c__law_keys => k_is)
    (case k__law_keys => k_is)
    (case l__law_like => k_is)
    (case c__law_like => k_is)
    (case k__law_like => k_is)
    (case l__law_store => k_is)
    (case c__law_store => k_is)
    (case k__law_store => k_is)
    (case l__law_writes => k_is)
    (case c__law_writes => k_is)
    (case k__law_writes => k_is)
    (case l__law_meets => k_is)
    (case c__law_meets => k_is)
    (case k__law_meets => k_is)
    (case l__law_clash => k_is)
    (case c__law_clash => k_is)
    (case k__law_clash => k_is)
    (case l__law_settled => k_is)
    (case c__law_settled => k_is)
    (case k__law_settled => k_is)
    (case l__law_deal => k_is)
    (case c__law_deal => k_is)
    (case k__law_deal => k_is)
    (case l__law_near => k_is)
    (case c__law_near => k_is)
    (case k__law_near => k_is)
    (case l__law_state_right => k_is)
    (case c__law_state_right => k_is)
    (case k__law_state_right => k_is)
    (case l_law => k_is)
    (case c_law => k_is)
    (case k_law => k_is)
    (case z_list => k_is)
    (case z_iter => k_is)
    (case z_len => k_is)
    (case z_property => k_is)
    (case z_min => k_is)
    (case z_sorted => k_is)
    (case z_max => k_is)
    (case z_abs => k_is)
    (case z_int => k_is)
    (case z_range => k_is)
    (case z_isinstance => k_is)
    (case z_bool => k_is)
    (case z_str => k_is)
    (case z_all => k_is)
    (case z_tuple => k_is)
    (case z_any => k_is)
