import PyProof.Rows.All
import Wide.All
import OpenK.AllK
import Wide.FinOn
import HandS.ForExc
import HandS.ForMost
import HandS.IsInst
import HandS.ExcIs
import HandS.Wide
import HandS.CallSlots
import HandS.Property
import HandS.Defaults
import HandS.MakeKwOnly
import HandS.TupAny
import HandS.LawCells
import PySem.Challenge.RW_meridian_k09_disk_after_crash
set_option Elab.async false
set_option linter.all false
set_option maxRecDepth 100000
set_option maxHeartbeats 4000000
namespace Dv
open PySem PySem.Spec PyProof.Rows L2
def top (i : Nat) : Stmt := PySem.Challenge.pw_meridian_k09_disk_after_crash.main.body.getD i (.Pass ⟨0, 0, 0, 0⟩)
abbrev s_checksum : Stmt := (top 7)
theorem sc_checksum : FnScope ["block", "total", "byte"] ["block"] (defScope s_checksum) := ⟨rfl, rfl, rfl, by decide +kernel, rfl, by decide +kernel, by decide +kernel⟩
abbrev s_seal : Stmt := (top 8)
theorem sc_seal : FnScope ["block"] ["block"] (defScope s_seal) := ⟨rfl, rfl, rfl, by decide +kernel, rfl, by decide +kernel, by decide +kernel⟩
abbrev s_open_seal : Stmt := (top 9)
theorem sc_open_seal : FnScope ["block", "sealed"] ["block"] (defScope s_open_seal) := ⟨rfl, rfl, rfl, by decide +kernel, rfl, by decide +kernel, by decide +kernel⟩
abbrev s__checksum_bytes : Stmt := (top 10)
theorem sc__checksum_bytes : FnScope ["block", "total"] ["block"] (defScope s__checksum_bytes) := ⟨rfl, rfl, rfl, by decide +kernel, rfl, by decide +kernel, by decide +kernel⟩
abbrev s_encode_number : Stmt := (top 12)
theorem sc_encode_number : FnScope ["number", "block"] ["number"] (defScope s_encode_number) := ⟨rfl, rfl, rfl, by decide +kernel, rfl, by decide +kernel, by decide +kernel⟩
abbrev s_decode_number : Stmt := (top 13)
theorem sc_decode_number : FnScope ["block", "at", "last", "number", "unit", "byte"] ["block", "at"] (defScope s_decode_number) := ⟨rfl, rfl, rfl, by decide +kernel, rfl, by decide +kernel, by decide +kernel⟩
abbrev s__check_index : Stmt := (top 14)
theorem sc__check_index : FnScope ["block", "at"] ["block", "at"] (defScope s__check_index) := ⟨rfl, rfl, rfl, by decide +kernel, rfl, by decide +kernel, by decide +kernel⟩
abbrev s__last_index : Stmt := (top 15)
theorem sc__last_index : FnScope ["block", "at"] ["block", "at"] (defScope s__last_index) := ⟨rfl, rfl, rfl, by decide +kernel, rfl, by decide +kernel, by decide +kernel⟩
abbrev s_encode_frame : Stmt := (top 17)
theorem sc_encode_frame : FnScope ["block"] ["block"] (defScope s_encode_frame) := ⟨rfl, rfl, rfl, by decide +kernel, rfl, by decide +kernel, by decide +kernel⟩
abbrev s_decode_frame : Stmt := (top 18)
theorem sc_decode_frame : FnScope ["block", "at", "size", "start", "behind"] ["block", "at"] (defScope s_decode_frame) := ⟨rfl, rfl, rfl, by decide +kernel, rfl, by decide +kernel, by decide +kernel⟩
abbrev s_decode_frames : Stmt := (top 19)
theorem sc_decode_frames : FnScope ["block", "found", "behind", "inner"] ["block"] (defScope s_decode_frames) := ⟨rfl, rfl, rfl, by decide +kernel, rfl, by decide +kernel, by decide +kernel⟩
abbrev s_Disk_init : Stmt := (inClass (top 21) 0)
theorem sc_Disk_init : FnScope ["self"] ["self"] (defScope s_Disk_init) := ⟨rfl, rfl, rfl, by decide +kernel, rfl, by decide +kernel, by decide +kernel⟩
abbrev s_Disk_kept : Stmt := (inClass (top 21) 1)
theorem sc_Disk_kept : FnScope ["self"] ["self"] (defScope s_Disk_kept) := ⟨rfl, rfl, rfl, by decide +kernel, rfl, by decide +kernel, by decide +kernel⟩
abbrev s_Disk_loose : Stmt := (inClass (top 21) 2)
theorem sc_Disk_loose : FnScope ["self"] ["self"] (defScope s_Disk_loose) := ⟨rfl, rfl, rfl, by decide +kernel, rfl, by decide +kernel, by decide +kernel⟩
abbrev s_Disk_size : Stmt := (inClass (top 21) 3)
theorem sc_Disk_size : FnScope ["self"] ["self"] (defScope s_Disk_size) := ⟨rfl, rfl, rfl, by decide +kernel, rfl, by decide +kernel, by decide +kernel⟩
abbrev s_Disk_write : Stmt := (inClass (top 21) 5)
theorem sc_Disk_write : FnScope ["self", "block"] ["self", "block"] (defScope s_Disk_write) := ⟨rfl, rfl, rfl, by decide +kernel, rfl, by decide +kernel, by decide +kernel⟩
abbrev s_Disk_sync : Stmt := (inClass (top 21) 6)
theorem sc_Disk_sync : FnScope ["self"] ["self"] (defScope s_Disk_sync) := ⟨rfl, rfl, rfl, by decide +kernel, rfl, by decide +kernel, by decide +kernel⟩
abbrev s_Disk_crash : Stmt := (inClass (top 21) 7)
theorem sc_Disk_crash : FnScope ["self", "keep", "last", "moved"] ["self", "keep", "last"] (defScope s_Disk_crash) := ⟨rfl, rfl, rfl, by decide +kernel, rfl, by decide +kernel, by decide +kernel⟩
abbrev s_Disk_frames : Stmt := (inClass (top 21) 8)
theorem sc_Disk_frames : FnScope ["self", "blocks", "_"] ["self"] (defScope s_Disk_frames) := ⟨rfl, rfl, rfl, by decide +kernel, rfl, by decide +kernel, by decide +kernel⟩
abbrev s_Disk_mend : Stmt := (inClass (top 21) 9)
theorem sc_Disk_mend : FnScope ["self", "_", "behind"] ["self"] (defScope s_Disk_mend) := ⟨rfl, rfl, rfl, by decide +kernel, rfl, by decide +kernel, by decide +kernel⟩
abbrev s__law_cell : Stmt := (top 23)
theorem sc__law_cell : FnScope ["script", "k"] ["script", "k"] (defScope s__law_cell) := ⟨rfl, rfl, rfl, by decide +kernel, rfl, by decide +kernel, by decide +kernel⟩
abbrev s__law_draws : Stmt := (top 25)
theorem sc__law_draws : FnScope ["cell", "many", "limit", "out", "k", "mixed"] ["cell", "many", "limit"] (defScope s__law_draws) := ⟨rfl, rfl, rfl, by decide +kernel, rfl, by decide +kernel, by decide +kernel⟩
abbrev s__law_block : Stmt := (top 26)
theorem sc__law_block : FnScope ["cell", "many", "number"] ["cell", "many"] (defScope s__law_block) := ⟨rfl, rfl, rfl, by decide +kernel, rfl, by decide +kernel, by decide +kernel⟩
abbrev s__law_varint : Stmt := (top 27)
theorem sc__law_varint : FnScope ["number", "out"] ["number"] (defScope s__law_varint) := ⟨rfl, rfl, rfl, by decide +kernel, rfl, by decide +kernel, by decide +kernel⟩
abbrev s__law_sum : Stmt := (top 28)
theorem sc__law_sum : FnScope ["block", "total", "byte"] ["block"] (defScope s__law_sum) := ⟨rfl, rfl, rfl, by decide +kernel, rfl, by decide +kernel, by decide +kernel⟩
abbrev s__law_sealed : Stmt := (top 29)
theorem sc__law_sealed : FnScope ["block", "total"] ["block"] (defScope s__law_sealed) := ⟨rfl, rfl, rfl, by decide +kernel, rfl, by decide +kernel, by decide +kernel⟩
abbrev s__law_frame : Stmt := (top 30)
theorem sc__law_frame : FnScope ["block"] ["block"] (defScope s__law_frame) := ⟨rfl, rfl, rfl, by decide +kernel, rfl, by decide +kernel, by decide +kernel⟩
abbrev s__law_refused : Stmt := (top 31)
theorem sc__law_refused : FnScope ["disk", "count", "byte"] ["disk", "count", "byte"] (defScope s__law_refused) := ⟨rfl, rfl, rfl, by decide +kernel, rfl, by decide +kernel, by decide +kernel⟩
abbrev s__law_stands : Stmt := (top 32)
theorem sc__law_stands : FnScope ["disk", "safe", "waiting", "blocks", "handed", "found"] ["disk", "safe", "waiting", "blocks"] (defScope s__law_stands) := ⟨rfl, rfl, rfl, by decide +kernel, rfl, by decide +kernel, by decide +kernel⟩
abbrev s__law_survivors : Stmt := (top 33)
theorem sc__law_survivors : FnScope ["written", "count", "torn", "left", "block"] ["written", "count", "torn"] (defScope s__law_survivors) := ⟨rfl, rfl, rfl, by decide +kernel, rfl, by decide +kernel, by decide +kernel⟩
abbrev s_law : Stmt := (top 34)
theorem sc_law : FnScope ["script", "disk", "safe", "synced", "written", "waiting", "k", "cell", "kind", "block", "count", "byte", "torn", "saved"] ["script"] (defScope s_law) := ⟨rfl, rfl, rfl, by decide +kernel, rfl, by decide +kernel, by decide +kernel⟩
theorem kit_own {K : PySem.W.Frag} {C E : Addr} {b : Bool} (h : PySem.W.subIn K (.ref C) (.ref E) = some b) (hs : PySem.W.subIn K (.ref C) (.ref C) = some true) (hc : PySem.W.isClsIn K E = true) (ht : PySem.W.typeIn K (.ref E) = some (.type "type")) :
    PySem.W.kitOne K (.ref C) (.ref E) = some b := by
  unfold PySem.W.kitOne
  by_cases e : (Value.ref C == Value.ref E) = true
  · rw [if_pos e]
    have e' : Value.ref C = Value.ref E := by simpa using e
    rw [← e', hs] at h
    exact h
  · rw [if_neg e]
    show (if ((PySem.W.clsIn K E).isSome && PySem.W.typeIn K (.ref E) == some (.type "type")) = true then PySem.W.subIn K (.ref C) (.ref E) else none) = some b
    have hc' : (PySem.W.clsIn K E).isSome = true := hc
    rw [hc', ht, if_pos (by rfl)]
    exact h
theorem kit_ty_sub {K : PySem.W.Frag} {C : Addr} {T : String} {b : Bool} (h : PySem.W.subIn K (.ref C) (.type T) = some b) (hm : PySem.W.kitMeta T = true) : PySem.W.kitOne K (.ref C) (.type T) = some b := by
  unfold PySem.W.kitOne
  rw [if_neg (by simp)]
  show (if PySem.W.kitMeta T = true then PySem.W.subIn K (.ref C) (.type T) else none) = some b
  rw [if_pos hm]
  exact h
/-- isinstance(e, c), isinstance(e, (c1, ..)): e the exception that the suite holds, of whatever class -/
def rIsG (K : PySem.W.Frag) (cls : Value) (d : Option Addr) (a : Addr) : List V → Hp → VK → Prop := fun xs H Q => ∃ (D : Addr) (b : Bool), cls = .ref D ∧ d = none ∧ ExcC K D ∧
  ((∃ (c : V) (cv : Value), xs = [.ref a, c] ∧ ClsV c cv ∧ PySem.W.kitOne K (.ref D) cv = some b ∧ Q (.bl b) H) ∨
   ∃ (tp : Addr) (cs : List V) (us : List Value), xs = [.ref a, .ref tp] ∧ H tp = some (.tup cs) ∧ Paired ClsV cs us ∧ PySem.W.kitAny K (.ref D) us = some b ∧ Q (.bl b) H)
theorem call_isG {X : Cx} {a : Addr} {cls : Value} {d : Option Addr} {oe : Obj} {pn : List (Addr × Obj)} (hz : Zc cls d oe) (hf : ∃ vs, oe.data = .fields vs) : CallR (X.suite a ((a, oe) :: pn)) (.builtin "isinstance") (rIsG X.K cls d a) := by
  intro pins s σ H xs us Q I r h
  obtain ⟨D, b, rfl, rfl, C, h⟩ := h
  rcases h with ⟨c, cv, rfl, hcv, e, q⟩ | ⟨tp, cs, ws, rfl, hT, k, e, q⟩
  · exact call_isE C hz hf pins s σ H _ us Q I r ⟨c, cv, b, rfl, fun u ru => hcv.eq ru, e, q⟩
  · obtain ⟨u1, u2, rfl, r1, r2⟩ := vals2 r
    cases (show u2 = Value.ref tp from r2)
    cases (show u1 = Value.ref a from r1)
    obtain ⟨hget, _⟩ := I.pin (a, oe) (List.mem_append.mpr (.inl List.mem_cons_self))
    obtain ⟨vs, hv⟩ := hf
    have J : PySem.W.InstAt s.heap a oe D none := by
      obtain ⟨oc, od, oda, osl⟩ := oe
      obtain ⟨h1, h2⟩ := hz
      dsimp only at h1 h2 hv
      subst h1 h2 hv
      exact ⟨hget, rfl, rfl, trivial⟩
    obtain ⟨_, its, rv, o, h1, h2, n, h3⟩ := (show ObjOk X.prog X.w H s.heap tp (.tup cs) from I.hok tp _ hT)
    have e3 := ClsV.all k rv
    subst e3
    obtain ⟨oc, od, dt, sl⟩ := o
    simp only at h2 h3
    subst h2 h3
    exact PySem.W.kia_tup (PySem.W.handS_kitx_exc C.hg C.hk C.hs C.hd C.ha C.hn C.ht C.hm) I.kIn J h1 e (fun z => nomatch z) fun tk => ⟨.bl b, H, I.kept (t' := tk) fun _ _ z => z, rfl, q⟩
/-- the room that == of data wants -/
theorem hu64_of {A : Around} {k : Nat} (hr : Room k A) : A.units + 64 < cLine := Nat.lt_of_le_of_lt (Nat.le_refl _) hr.units
theorem same_new {H : Hp} {p : Addr} {o : HO} (h : H p = none) : Same H (upd H p o) := fun b x e => by
  rw [upd_ne (ne_of_none e h)]
  exact e
/-- an object unknown before may change -/
theorem same_mut {H H1 : Hp} {p : Addr} {o : HO} (s : Same H H1) (h : H p = none) : Same H (upd H1 p o) := fun b x e => by
  rw [upd_ne (ne_of_none e h)]
  exact s b x e
theorem sql_new {K : PySem.W.Frag} {H : Hp} {p : Addr} {xs : List V} : SqL K (upd H p (.lst xs)) p xs := SqL.of upd_same
theorem same_dp {K : PySem.W.Frag} {H H' : Hp} (s : Same H H') : ∀ (d : PyData) (v : V), Dp K H v d → Dp K H' v d := by
  intro d v h
  exact Dp.rec (motive_1 := fun v d _ => Dp K H' v d) (motive_2 := fun vs ds _ => DpAll K H' vs ds) .non (fun b => .bl b) (fun i => .int i) (fun x => .str x)
    (fun h1 _ ih => .lst (s.seq h1) ih) (fun h1 _ ih => .tup (by rcases h1 with h1 | h1
                                                                 · rcases h1 with h1 | ⟨o, h1⟩
                                                                   · exact .inl (.inl (s _ _ h1))
                                                                   · exact .inl (.inr ⟨o, s _ _ h1⟩)
                                                                 · exact .inr h1) ih) .nil (fun _ _ h1 h2 => .cons h1 h2) h
/-! lists of ints as data -/
def dInts (ns : List Int) : PyData := .list (ns.map PyData.int)
theorem dp_all_ints {K : PySem.W.Frag} {H : Hp} : ∀ ns : List Int, DpAll K H (ns.map V.int) (ns.map PyData.int)
  | [] => .nil
  | n :: r => .cons (.int n) (dp_all_ints r)
theorem dp_ints {K : PySem.W.Frag} {H : Hp} {a : Addr} {ns : List Int} (h : SqL K H a (ns.map V.int)) : Dp K H (.ref a) (dInts ns) := .lst h (dp_all_ints ns)
theorem eqv_ints : ∀ ns ms : List Int, PyData.eqvAll (ns.map PyData.int) (ms.map PyData.int) = decide (ns = ms)
  | [], [] => rfl
  | [], _ :: _ => rfl
  | _ :: _, [] => rfl
  | n :: r, m :: t => by
    show (PyData.eqv (.int n) (.int m) && PyData.eqvAll (r.map PyData.int) (t.map PyData.int)) = _
    rw [eqv_ints r t]
    show ((n == m) && decide (r = t)) = _
    by_cases h : n = m <;> by_cases h2 : r = t <;> simp [h, h2]
theorem eqv_dInts (ns ms : List Int) : PyData.eqv (dInts ns) (dInts ms) = decide (ns = ms) := eqv_ints ns ms
theorem canLay_ints : ∀ ns : List Int, (PyData.list (ns.map PyData.int)).canLay0 = true → True := fun _ _ => trivial
theorem ifT {c : Bool} {A B : Prop} (hc : c = true) (h : A) : if c = true then A else B := by
  rw [if_pos hc]
  exact h
theorem ifF {c : Bool} {A B : Prop} (hc : c = false) (h : B) : if c = true then A else B := by
  rw [hc, if_neg Bool.false_ne_true]
  exact h
/-- both ways of an if over a decided comparison -/
theorem iteD {p : Prop} [Decidable p] {A B : Prop} (h1 : p → A) (h2 : ¬ p → B) : if decide p = true then A else B := by
  by_cases h : p
  · rw [if_pos (decide_eq_true h)]
    exact h1 h
  · rw [if_neg (by simpa using h)]
    exact h2 h
theorem iteN {p : Prop} [Decidable p] {A B : Prop} (h1 : ¬ p → A) (h2 : p → B) : if (!decide p) = true then A else B := by
  by_cases h : p
  · rw [if_neg (by simpa using h)]
    exact h2 h
  · rw [if_pos (by simpa using h)]
    exact h1 h
theorem yes_if {σ : L2.St} {H : Hp} {A B : Hp → Prop} (h : A H) : tYes σ H (fun b H3 => if b = true then A H3 else B H3) := by
  show (if true = true then A H else B H)
  rw [if_pos rfl]
  exact h
abbrev Li (H : Hp) (p : Addr) (ns : List Int) : Prop := H p = some (.lst (ns.map V.int))
theorem szl {n : Nat} (h : n ≤ 1000000) : n < sizeLine := Nat.lt_of_le_of_lt h (by decide)
theorem szle {n : Nat} (h : n ≤ 1000000) : n ≤ sizeLine := Nat.le_of_lt (szl h)
theorem mem_int {ns : List Int} {i : Nat} {x : V} (hx : (ns.map V.int)[i]? = some x) : ∃ n, ns[i]? = some n ∧ x = V.int n := by
  rw [List.getElem?_map] at hx
  cases e : ns[i]? with
  | none => rw [e] at hx; cases hx
  | some u => rw [e] at hx; exact ⟨u, rfl, (Option.some.inj hx).symm⟩
theorem li_push {H : Hp} {p : Addr} {ns : List Int} {n : Int} : Li (upd H p (.lst (ns.map V.int ++ [V.int n]))) p (ns ++ [n]) := by
  show upd _ _ _ _ = _
  rw [upd_same, List.map_append]
  rfl
theorem take_succ {α : Type} {l : List α} {i : Nat} {x : α} (h : l[i]? = some x) : l.take (i + 1) = l.take i ++ [x] := by
  rw [List.take_add_one, h]
  rfl
/-! slices of lists -/
theorem cutV_map {α : Type} (f : α → V) (xs : List α) (lo hi : Option Int) : cutV (xs.map f) lo hi = ((xs.drop (HT.sIx xs.length 0 lo)).take (HT.sIx xs.length xs.length hi - HT.sIx xs.length 0 lo)).map f := by
  unfold cutV
  rw [List.length_map, List.map_take, List.map_drop]
theorem cut_to (xs : List V) (k : Nat) : cutV xs none (some (k : Int)) = xs.take k := by
  unfold cutV
  rw [HT.sIx_none, HT.sIx_nat, List.drop_zero, Nat.sub_zero]
  by_cases h : k ≤ xs.length
  · rw [Nat.min_eq_left h]
  · rw [Nat.min_eq_right (by omega), List.take_of_length_le (Nat.le_refl _), List.take_of_length_le (by omega)]
theorem cut_from (xs : List V) (k : Nat) : cutV xs (some (k : Int)) none = xs.drop k := by
  unfold cutV
  rw [HT.sIx_none, HT.sIx_nat]
  by_cases h : k ≤ xs.length
  · rw [Nat.min_eq_left h]
    exact List.take_of_length_le (by rw [List.length_drop]; exact Nat.le_refl _)
  · rw [Nat.min_eq_right (by omega), List.drop_of_length_le (by omega), List.take_nil, List.drop_of_length_le (by omega)]
theorem cut_fromto (xs : List V) (i j : Nat) : cutV xs (some (i : Int)) (some (j : Int)) = (xs.drop i).take (j - i) := by
  unfold cutV
  rw [HT.sIx_nat, HT.sIx_nat]
  by_cases h : i ≤ xs.length
  · rw [Nat.min_eq_left h]
    by_cases h2 : j ≤ xs.length
    · rw [Nat.min_eq_left h2]
    · rw [Nat.min_eq_right (by omega), List.take_of_length_le (by rw [List.length_drop]; exact Nat.le_refl _), List.take_of_length_le (by rw [List.length_drop]; omega)]
  · rw [show xs.drop (min i xs.length) = [] from List.drop_of_length_le (by omega), List.take_nil, List.drop_of_length_le (by omega), List.take_nil]
theorem sIx_neg (n d k : Nat) (h : 0 < k) : HT.sIx n d (some (-(k : Int))) = n - k := by
  show (if -(k : Int) < 0 then (-(k : Int) + (n : Int)).toNat else _) = _
  rw [if_pos (by omega)]
  omega
theorem cut_ton (xs : List V) (k : Nat) (h : 0 < k) : cutV xs none (some (-(k : Int))) = xs.take (xs.length - k) := by
  unfold cutV
  rw [HT.sIx_none, sIx_neg _ _ _ h, List.drop_zero, Nat.sub_zero]
theorem cut_fromn (xs : List V) (k : Nat) (h : 0 < k) : cutV xs (some (-(k : Int))) none = xs.drop (xs.length - k) := by
  unfold cutV
  rw [HT.sIx_none, sIx_neg _ _ _ h]
  exact List.take_of_length_le (by rw [List.length_drop]; exact Nat.le_refl _)

/-! own rules: methods and makings whose errors depend on the slots (for a try), keywords, an own __contains__ -/
section
variable {X : Cx} {CX : CXT} {k n : Nat} {C f : Addr} {fd : FuncData} {ps ks : List Str} {sp : Sp} {E : L2.St → XK} {dvs : List V} {ds : List Value} {o e : Expr} {es : List Expr} {kws : List Keyword} {m x : Str} {p apos pos : Pos} {ta : TE} {t tk : TA}
  {g : List Value → List Value → List Value} {gV : List V → List V → List V}
theorem run_at {pins : List (Addr × Obj)} {σ : L2.St} {H : Hp} {s : Shared} {Q : VK} {E : XK} {us0 us : List Value} {kw : List (Str × Value)} {vs : List V} (F : FnOk X.prog X.w X.K X.mg X.base CX k f fd ps sp) (hr : Room k X.A) (hx : PassesAt CX X σ E)
    (I : Inv X pins σ H s) (hb : BindsTo s fd ⟨us0, kw⟩ (ps.zip us)) (r : Vals vs us) (h : sp vs H Q E) : wpAny (model X.prog X.w) X.A (call (.ref f) us0 kw) (EP X pins σ Q) X.xe s := by
  refine wpAny_call (codeAny_mono (F.run X.A X.stack s H ⟨us0, kw⟩ us vs Q E hr I.env0 hb r h) fun r s' hq => ?_)
  cases r with
  | error er => exact hx pins H s er s' I hq
  | ok fl => cases fl with
    | ret u => exact I.after hq
    | next => exact hq.elim
    | brk => exact hq.elim
    | cont => exact hq.elim
/-- o.m(e, .., k = v, ..) -/
def tMA (C : Addr) (m : Str) (n l : Nat) (sp : Sp) (gV : List V → List V → List V) (E : L2.St → XK) (ta : TE) (t tk : TA) : TE := fun σ H Q => ta σ H fun x H1 => ∃ a dx fs, x = .ref a ∧ H1 a = some (.ins C dx fs) ∧ fs.lookup m = none ∧
  t σ H1 fun vs H2 => tk σ H2 fun zs H3 => vs.length = n ∧ zs.length = l ∧ sp (gV (x :: vs) zs) H3 Q (E σ)
theorem pe_mK {pl : Sem Bool} (he : PE X o ta) (c : Cls X.K C) (hm : Meth X.K C m f) (F : FnOk X.prog X.w X.K X.mg X.base CX k f fd ps sp) (hr : Room k X.A) (hb : KBn X.K fd ps (n + 1) ks g gV) (hx : ∀ σ, PassesAt CX X σ (E σ)) (ha : PA X (e :: es) t) (hkw : PK X kws tk)
    (hall : (backToKw pos (keywordEach kws X.env)).all (·.1.isSome) = true := by rfl) (hks : (backToKw pos (keywordEach kws X.env)).filterMap (·.1) = ks := by rfl)
    (hst : starEach (e :: es) X.env = (false, eval e X.env) :: starEach es X.env := by rfl) (hpl : ((backTo pos (starEach (e :: es) X.env)).any (·.1) || (backToKw pos (keywordEach kws X.env)).any (·.1.isNone)) = false := by rfl)
    (ht : eval (.Call (.Attribute o m apos) (e :: es) kws pos) X.env = (do
      let ov ← eval o X.env
      standAt apos.atName
      let (f, first) ← holding [ov] (getMethod ov m pl)
      callWith pos f first (backTo pos (starEach (e :: es) X.env)) (backToKw pos (keywordEach kws X.env))) := by rfl) :
    PE X (.Call (.Attribute o m apos) (e :: es) kws pos) (tMA C m n ks.length sp gV E ta t tk) := by
  refine ⟨fun pins s σ H Q I h => PySem.W.methodCall_KW (pl := pl) (thn (he.run pins s σ H _ I h) fun u s1 ⟨x, H1, I1, rx, a, dx, fs, ex, ea, l, q⟩ => ?_) ht⟩
  subst ex
  obtain rfl : u = Value.ref a := rx
  refine getmeth_ok I1 ea c hm l (PySem.W.callWith_KW (first := [.ref a]) (h₀ := X.base) I.ok.mod.kin hm.kp hall (thn (ha.run pos pins s1 σ H1 _ I1 q) fun us s2 ⟨vs, H2, I2, r, q2⟩ => ?_) hpl hst)
  refine thn (hkw.run pos pins s2 σ H2 _ I2 q2) fun ws s3 ⟨zs, H3, I3, rz, l1, l2, q3⟩ => ⟨I3.kIn, ?_⟩
  rw [hks]
  have r1 : Vals (V.ref a :: vs) (Value.ref a :: us) := .cons rfl r
  exact run_at F hr (hx σ) I3 (hb.to s3 (Value.ref a :: us) ws I3.kIn (by rw [List.length_cons, ← r.length, l1]) (rz.length.symm.trans l2)) (hb.rel r1 rz) q3
theorem pe_mK0 {pl : Sem Bool} (he : PE X o ta) (c : Cls X.K C) (hm : Meth X.K C m f) (F : FnOk X.prog X.w X.K X.mg X.base CX k f fd ps sp) (hr : Room k X.A) (hb : KBn X.K fd ps 1 ks g gV) (hx : ∀ σ, PassesAt CX X σ (E σ)) (hkw : PK X kws tk)
    (hall : (backToKw pos (keywordEach kws X.env)).all (·.1.isSome) = true := by rfl) (hks : (backToKw pos (keywordEach kws X.env)).filterMap (·.1) = ks := by rfl)
    (hpl : ((backTo pos (starEach [] X.env)).any (·.1) || (backToKw pos (keywordEach kws X.env)).any (·.1.isNone)) = false := by rfl)
    (ht : eval (.Call (.Attribute o m apos) [] kws pos) X.env = (do
      let ov ← eval o X.env
      standAt apos.atName
      let (f, first) ← holding [ov] (getMethod ov m pl)
      callWith pos f first (backTo pos (starEach [] X.env)) (backToKw pos (keywordEach kws X.env))) := by rfl) :
    PE X (.Call (.Attribute o m apos) [] kws pos) (tMA C m 0 ks.length sp gV E ta tNil tk) := by
  refine ⟨fun pins s σ H Q I h => PySem.W.methodCall_KW (pl := pl) (thn (he.run pins s σ H _ I h) fun u s1 ⟨x, H1, I1, rx, a, dx, fs, ex, ea, l, q⟩ => ?_) ht⟩
  subst ex
  obtain rfl : u = Value.ref a := rx
  refine getmeth_ok I1 ea c hm l (PySem.W.callWith_KW0 (first := [.ref a]) (h₀ := X.base) I.ok.mod.kin hm.kp hall (thn (hkw.run pos pins s1 σ H1 _ I1 q) fun ws s3 ⟨zs, H3, I3, rz, l1, l2, q3⟩ => ⟨I3.kIn, ?_⟩) hpl)
  rw [hks]
  have r1 : Vals ([V.ref a]) ([Value.ref a]) := .cons rfl .nil
  exact run_at F hr (hx σ) I3 (hb.to s3 [Value.ref a] ws I3.kIn rfl (rz.length.symm.trans l2)) (hb.rel r1 rz) q3
/-- o.m(e, ..), the wish of errors by the slots -/
def tMS (C : Addr) (m : Str) (sp : Sp) (dvs : List V) (E : L2.St → XK) (ta : TE) (t : TA) : TE := fun σ H Q => ta σ H fun x H1 => ∃ a dx fs, x = .ref a ∧ H1 a = some (.ins C dx fs) ∧ fs.lookup m = none ∧ t σ H1 fun vs H2 => sp (x :: (vs ++ dvs)) H2 Q (E σ)
theorem pe_mS {pl : Sem Bool} (he : PE X o ta) (c : Cls X.K C) (hm : Meth X.K C m f) (F : FnOk X.prog X.w X.K X.mg X.base CX k f fd ps sp) (hr : Room k X.A) (hb : Binds X.K fd ps ds) (hd : Vals dvs ds) (hx : ∀ σ, PassesAt CX X σ (E σ)) (ha : PA X (e :: es) t)
    (hst : starEach (e :: es) X.env = (false, eval e X.env) :: starEach es X.env := by rfl) (hpl : (backTo pos (starEach es X.env)).any (·.1) = false := by rfl)
    (ht : eval (.Call (.Attribute o m apos) (e :: es) [] pos) X.env = (do
      let ov ← eval o X.env
      standAt apos.atName
      let (f, first) ← holding [ov] (getMethod ov m pl)
      callWith pos f first (backTo pos (starEach (e :: es) X.env)) (backToKw pos (keywordEach [] X.env))) := by rfl) :
    PE X (.Call (.Attribute o m apos) (e :: es) [] pos) (tMS C m sp dvs E ta t) := by
  refine ⟨fun pins s σ H Q I h => PySem.W.methodCall_KW (pl := pl) (thn (he.run pins s σ H _ I h) fun u s1 ⟨x, H1, I1, rx, a, dx, fs, ex, ea, l, q⟩ => ?_) ht⟩
  subst ex
  obtain rfl : u = Value.ref a := rx
  refine getmeth_ok I1 ea c hm l (PySem.W.callWith_K (first := [.ref a]) (h₀ := X.base) I.ok.mod.kin hm.kp (thn (ha.run pos pins s1 σ H1 _ I1 q) fun us s2 ⟨vs, H2, I2, r, q2⟩ => ⟨I2.kIn, ?_⟩) hst hpl)
  have r2 : Vals (V.ref a :: (vs ++ dvs)) (Value.ref a :: us ++ ds) := .cons rfl (r.append hd)
  have hl : (Value.ref a :: us ++ ds).length = ps.length := by rw [← r2.length]; exact F.len _ _ _ _ q2
  exact run_at (us0 := Value.ref a :: us) F hr (hx σ) I2 (hb s2 (Value.ref a :: us) I2.kIn hl) r2 q2
theorem pe_mS0 {pl : Sem Bool} (he : PE X o ta) (c : Cls X.K C) (hm : Meth X.K C m f) (F : FnOk X.prog X.w X.K X.mg X.base CX k f fd ps sp) (hr : Room k X.A) (hb : Binds X.K fd ps ds) (hd : Vals dvs ds) (hx : ∀ σ, PassesAt CX X σ (E σ))
    (ht : eval (.Call (.Attribute o m apos) [] [] pos) X.env = (do
      let ov ← eval o X.env
      standAt apos.atName
      let (f, first) ← holding [ov] (getMethod ov m pl)
      callWith pos f first (backTo pos (starEach [] X.env)) (backToKw pos (keywordEach [] X.env))) := by rfl) :
    PE X (.Call (.Attribute o m apos) [] [] pos) (tMS C m sp dvs E ta tNil) := by
  refine ⟨fun pins s σ H Q I h => PySem.W.methodCall_KW (pl := pl) (thn (he.run pins s σ H _ I h) fun u s1 ⟨x, H1, I1, rx, a, dx, fs, ex, ea, l, q⟩ => ?_) ht⟩
  subst ex
  obtain rfl : u = Value.ref a := rx
  have r2 : Vals (V.ref a :: ([] ++ dvs)) (Value.ref a :: [] ++ ds) := .cons rfl hd
  have hl : (Value.ref a :: [] ++ ds).length = ps.length := by rw [← r2.length]; exact F.len _ _ _ _ q
  refine getmeth_ok I1 ea c hm l (PySem.W.callWith_K0 (first := [.ref a]) I1.kIn hm.kp (run_at (us0 := [Value.ref a]) F hr (hx σ) I1 (hb s1 [Value.ref a] I1.kIn hl) r2 q))
/-- C(e, ..), the wish of errors by the slots -/
def tKS (C : Addr) (sp : Sp) (dvs : List V) (E : L2.St → XK) (t : TA) : TE := fun σ H Q => t σ H fun vs H1 => ∀ x dx, H1 x = none → H1 dx = none → dx ≠ x →
  sp (.ref x :: (vs ++ dvs)) (upd (upd H1 dx (.own x)) x (.ins C dx [])) (fun v H2 => v = .non ∧ Q (.ref x) H2) (E σ)
theorem pe_kS (M : Mk X.K C f) (F : FnOk X.prog X.w X.K X.mg X.base CX k f fd ps sp) (hr : Room (k + 1) X.A) (hg : Gl X x) (hm : X.mg x = some (.ref C)) (hb : Binds X.K fd ps ds) (hd : Vals dvs ds) (hx : ∀ σ, PassesAt CX X σ (E σ)) (ha : PA X (e :: es) t)
    (hdb : (x == ("__debug__" : Str)) = false := by decide) (he : starEach (e :: es) X.env = (false, eval e X.env) :: starEach es X.env := by rfl) (hpl : (backTo pos (starEach es X.env)).any (·.1) = false := by rfl) :
    PE X (.Call (.Name x p) (e :: es) [] pos) (tKS C sp dvs E t) := by
  refine ⟨fun pins s σ H Q I h => wpAny_Call_Name_kw (ld_glob I hg hm (PySem.W.callWith_K (h₀ := X.base) I.ok.mod.kin M.kp (thn (ha.run pos pins s σ H _ I h) fun us s1 ⟨vs, H1, I1, r, q⟩ => ⟨I1.kIn, ?_⟩) he hpl) hdb)⟩
  have hq := q (s1.heap.objs.size + 1) s1.heap.objs.size (I1.hok.fresh (Nat.le_succ _)) (I1.hok.fresh (Nat.le_refl _)) (Nat.ne_of_lt (Nat.lt_succ_self _))
  have I2 := Inv.made (C := C) I1
  have r2 : Vals (V.ref (s1.heap.objs.size + 1) :: (vs ++ dvs)) (Value.ref (s1.heap.objs.size + 1) :: us ++ ds) := .cons rfl (r.append hd)
  have hl : (Value.ref (s1.heap.objs.size + 1) :: us ++ ds).length = ps.length := by rw [← r2.length]; exact F.len _ _ _ _ hq
  refine wpAny_call (make_map (f := f) I1.kIn M.makes M.init (beq_iff_eq.mp M.fn) (codeAny_mono (F.run _ X.stack _ _ ⟨Value.ref (s1.heap.objs.size + 1) :: us, []⟩ (Value.ref (s1.heap.objs.size + 1) :: us ++ ds) _ _ (E σ) (hr.make C us [])
    (I2.env0.make C us []) (hb _ (Value.ref (s1.heap.objs.size + 1) :: us) I2.kIn hl) r2 hq) fun r s' hz => ?_))
  cases r with
  | error er => exact hx σ pins _ _ er s' I2 hz
  | ok fl => cases fl with
    | ret u =>
      obtain ⟨v, H', I3, rv, ev, q3⟩ := I2.after hz
      subst ev
      exact ⟨rv, ⟨V.ref (s1.heap.objs.size + 1), H', I3, rfl, q3⟩⟩
    | next => exact hz.elim
    | brk => exact hz.elim
    | cont => exact hz.elim
theorem passAll {X : Cx} (σ : L2.St) : PassesAt (L2.CX X.prog X.w) X σ E0 := fun pins H s er s' I h => passL pins σ H s er s' I h
/-- y in o, o of a class with its own __contains__ -/
def rInOwn (C : Addr) (sp : Sp) (E : XK) (neg : Bool) : R2 := fun y x H Q => ∃ a dx fs, x = .ref a ∧ H a = some (.ins C dx fs) ∧ sp [.ref a, y] H (fun v H' => ∃ b : Bool, v = .bl b ∧ Q (.bl (b != neg)) H') E
theorem has_own {pins : List (Addr × Obj)} {σ : L2.St} {H : Hp} {s : Shared} {E : XK} {a dx : Addr} {fs : List (Str × V)} {y : V} {v : Value} {Q : Bool → Hp → Prop} (c : Cls X.K C) (hm : Meth X.K C "__contains__" f) (F : FnOk X.prog X.w X.K X.mg X.base CX k f fd ps sp) (hr : Room k X.A)
    (hb : Binds X.K fd ps []) (hx : Passes CX X E) (I : Inv X pins σ H s) (ea : H a = some (.ins C dx fs)) (ry : RelV y v) (h : sp [.ref a, y] H (fun z H' => ∃ b : Bool, z = .bl b ∧ Q b H') E) :
    wpAny (model X.prog X.w) X.A (contains (.ref a) v) (fun b s' => ∃ H', Inv X pins σ H' s' ∧ Q b H') X.xe s := by
  obtain ⟨mA, O, _⟩ := ins_get I.hok ea
  obtain ⟨od, J, _⟩ := O.look
  unfold contains
  refine wpAny_holding (wpAny_bind (wpAny_bind (J.type.here ((PySem.W.looks_findIn I.kIn hm.at_).here ?_))))
  rw [if_neg (by simp)]
  refine wpAny_bind (PySem.W.unlessNone_K I.kIn J hm.at_ hm.fn (wpAny_mono (run_fn (us := [.ref a, v]) (vs := [.ref a, y]) F hr hb .nil hx I (.cons rfl (.cons ry .nil)) h) (fun u s' hu => ?_) fun _ _ z => z))
  obtain ⟨z, H', I', rz, b, rfl, q⟩ := hu
  obtain rfl : u = Value.bool b := rz
  exact wpAny_truthy_bool ⟨H', I', q⟩
theorem op_inOwn {E : XK} (c : Cls X.K C) (hm : Meth X.K C "__contains__" f) (F : FnOk X.prog X.w X.K X.mg X.base CX k f fd ps sp) (hr : Room k X.A) (hb : Binds X.K fd ps []) (hx : Passes CX X E) : OpR X (compareOp .In) (rInOwn C sp E false) := by
  intro pins s σ H y x v u Q I ry rx h
  obtain ⟨a, dx, fs, rfl, ea, h⟩ := h
  obtain rfl : u = Value.ref a := rx
  refine wpAny_bind (wpAny_mono (has_own (Q := fun b H' => Q (.bl b) H') c hm F hr hb hx I ea ry (by simpa using h)) (fun b s' hz => ?_) fun _ _ z => z)
  obtain ⟨H', I', q⟩ := hz
  exact wpAny_pure ⟨.bl b, H', I', rfl, q⟩
theorem op_notInOwn {E : XK} (c : Cls X.K C) (hm : Meth X.K C "__contains__" f) (F : FnOk X.prog X.w X.K X.mg X.base CX k f fd ps sp) (hr : Room k X.A) (hb : Binds X.K fd ps []) (hx : Passes CX X E) : OpR X (compareOp .NotIn) (rInOwn C sp E true) := by
  intro pins s σ H y x v u Q I ry rx h
  obtain ⟨a, dx, fs, rfl, ea, h⟩ := h
  obtain rfl : u = Value.ref a := rx
  refine wpAny_bind (wpAny_mono (has_own (Q := fun b H' => Q (.bl (!b)) H') c hm F hr hb hx I ea ry (by simpa using h)) (fun b s' hz => ?_) fun _ _ z => z)
  obtain ⟨H', I', q⟩ := hz
  exact wpAny_pure ⟨.bl (!b), H', I', rfl, q⟩
end
/-! the same rules with K named (in comprehensions and trys the context is a bound one) -/
section
variable {X : Cx} {K : PySem.W.Frag}
theorem pe_fldK {e : Expr} {ta : TE} {f : Str} {pos : Pos} (h : X.K = K) (he : PE X e ta) (hb : attributeBase e f X.env (eval e X.env) = eval e X.env) : PE X (.Attribute e f pos) (tFld K ta f) := h ▸ pe_fld he hb
theorem ixK {r : PySem.W.Frag → V → V → Hp → VK → Prop} (h : X.K = K) (q : IxR X (r X.K)) : IxR X (r K) := h ▸ q
theorem slK {r : PySem.W.Frag → V → Option Int → Option Int → Hp → VK → Prop} (h : X.K = K) (q : SlR X (r X.K)) : SlR X (r K) := h ▸ q
theorem opK {f : Value → Value → Sem Value} {r : PySem.W.Frag → R2} (h : X.K = K) (q : OpR X f (r X.K)) : OpR X f (r K) := h ▸ q
theorem callK {v : Value} {r : PySem.W.Frag → List V → Hp → VK → Prop} (h : X.K = K) (q : CallR X v (r X.K)) : CallR X v (r K) := h ▸ q
def rLenK (K : PySem.W.Frag) : List V → Hp → VK → Prop := fun xs H Q => ∃ x n, xs = [x] ∧ LenV K x H n ∧ Q (.int n) H
def rListK (K : PySem.W.Frag) : List V → Hp → VK → Prop := fun xs H Q => ∃ p ys, xs = [.ref p] ∧ (SqL K H p ys ∨ SqT K H p ys) ∧ ∀ l, H l = none → Q (.ref l) (upd H l (.lst ys))
end
/-- what the top says of an own class without errors -/
structure ClsT (K : PySem.W.Frag) (mg : Str → Option Value) (nm : Str) (C : Addr) : Prop where
  cl : Cls K C
  mgC : mg nm = some (.ref C)
  ha : PySem.W.findIn K (.ref C) "__class__" = some (some (.builtin "object.__class__"))
  hn : PySem.W.specialIn K (.builtin "object.__class__") "__get__" = some (some (.builtin "getset_descriptor.__get__"))
  ht : PySem.W.takesIn K (.builtin "object.__class__") = some true
  hm : PySem.W.mroIn K C (.type "object") = some true
theorem kit_self {K : PySem.W.Frag} {t : Value} (h : (t == t) = true) : PySem.W.kitOne K t t = some true := by
  unfold PySem.W.kitOne
  rw [if_pos h]
theorem ClsT.ty {K : PySem.W.Frag} {mg : Str → Option Value} {nm : Str} {C : Addr} (c : ClsT K mg nm C) {H : Hp} {a dx : Addr} {fs : List (Str × V)} (e : H a = some (.ins C dx fs)) : TyX K H (.ref a) (.ref C) := .base (.ins e c.cl c.ha c.hn c.ht c.hm)
/-! one rule or another, by the proof's choice -/
theorem pe_either {X : Cx} {e : Expr} {t1 t2 : TE} (h1 : PE X e t1) (h2 : PE X e t2) : PE X e (fun σ H Q => t1 σ H Q ∨ t2 σ H Q) := ⟨fun pins s σ H Q I h => h.elim (h1.run pins s σ H Q I) (h2.run pins s σ H Q I)⟩
def iSeq (K : PySem.W.Frag) (tl : TE) : TI := fun σ H R => iList K tl σ H R ∨ iTup K tl σ H R
theorem pi_seq {X : Cx} {tg l : Expr} {tl : TE} (h : PE X l tl) : PI X tg l (iSeq X.K tl) := ⟨fun pins s σ H R I h' => h'.elim ((pi_list h).run pins s σ H R I) ((pi_tup h).run pins s σ H R I)⟩
theorem hu_of {A : Around} {k : Nat} (hr : Room k A) : A.units + 1 < cLine := by
  have := hr.un
  omega

structure ExcT (K : PySem.W.Frag) (mg : Str → Option Value) (nm : Str) (C : Addr) : Prop where
  gC : mg nm = some (.ref C)
  xP : PySem.W.excIn K C [.type "ValueError", .type "Exception", .type "BaseException", .type "object"] "ValueError.__new__" = true
  kC : PySem.W.keepIn K (.ref C) = true
  bP : PySem.W.subIn K (.ref C) (.type "BaseException") = some true
  tP : PySem.W.typeIn K (.ref C) = some (.type "type")
  iP : PySem.W.isClsIn K C = true
  cP : ExcC K C
  vP : PySem.W.kitOne K (.ref C) (.type "ValueError") = some true
structure Env (K : PySem.W.Frag) (mg : Str → Option Value) where
  c_MeridianError : Addr
  c_BadArgument : Addr
  c_BadBytes : Addr
  c_BadSeal : Addr
  a_Disk : Addr
  a_checksum : Addr
  d_checksum : FuncData
  a_seal : Addr
  d_seal : FuncData
  a_open_seal : Addr
  d_open_seal : FuncData
  a__checksum_bytes : Addr
  d__checksum_bytes : FuncData
  a_encode_number : Addr
  d_encode_number : FuncData
  a_decode_number : Addr
  d_decode_number : FuncData
  a__check_index : Addr
  d__check_index : FuncData
  a__last_index : Addr
  d__last_index : FuncData
  a_encode_frame : Addr
  d_encode_frame : FuncData
  a_decode_frame : Addr
  d_decode_frame : FuncData
  a_decode_frames : Addr
  d_decode_frames : FuncData
  a_Disk_init : Addr
  d_Disk_init : FuncData
  a_Disk_kept : Addr
  d_Disk_kept : FuncData
  a_Disk_loose : Addr
  d_Disk_loose : FuncData
  a_Disk_size : Addr
  d_Disk_size : FuncData
  a_Disk_write : Addr
  d_Disk_write : FuncData
  a_Disk_sync : Addr
  d_Disk_sync : FuncData
  a_Disk_crash : Addr
  d_Disk_crash : FuncData
  a_Disk_frames : Addr
  d_Disk_frames : FuncData
  a_Disk_mend : Addr
  d_Disk_mend : FuncData
  a__law_cell : Addr
  d__law_cell : FuncData
  a__law_draws : Addr
  d__law_draws : FuncData
  a__law_block : Addr
  d__law_block : FuncData
  a__law_varint : Addr
  d__law_varint : FuncData
  a__law_sum : Addr
  d__law_sum : FuncData
  a__law_sealed : Addr
  d__law_sealed : FuncData
  a__law_frame : Addr
  d__law_frame : FuncData
  a__law_refused : Addr
  d__law_refused : FuncData
  a__law_stands : Addr
  d__law_stands : FuncData
  a__law_survivors : Addr
  d__law_survivors : FuncData
  a_law : Addr
  d_law : FuncData
  F_checksum : Fun K "checksum" "checksum" s_checksum a_checksum d_checksum
  b_checksum : Binds K d_checksum ["block"] []
  g_checksum : mg "checksum" = some (.ref a_checksum)
  F_seal : Fun K "seal" "seal" s_seal a_seal d_seal
  b_seal : Binds K d_seal ["block"] []
  g_seal : mg "seal" = some (.ref a_seal)
  F_open_seal : Fun K "open_seal" "open_seal" s_open_seal a_open_seal d_open_seal
  b_open_seal : Binds K d_open_seal ["block"] []
  g_open_seal : mg "open_seal" = some (.ref a_open_seal)
  F__checksum_bytes : Fun K "_checksum_bytes" "_checksum_bytes" s__checksum_bytes a__checksum_bytes d__checksum_bytes
  b__checksum_bytes : Binds K d__checksum_bytes ["block"] []
  g__checksum_bytes : mg "_checksum_bytes" = some (.ref a__checksum_bytes)
  F_encode_number : Fun K "encode_number" "encode_number" s_encode_number a_encode_number d_encode_number
  b_encode_number : Binds K d_encode_number ["number"] []
  g_encode_number : mg "encode_number" = some (.ref a_encode_number)
  F_decode_number : FunD K "decode_number" "decode_number" (defArgs s_decode_number) (defBody s_decode_number) (defScope s_decode_number) [.int 0] [] a_decode_number d_decode_number
  w1_decode_number : List Value
  v1_decode_number : Vals [.int 0] w1_decode_number
  b1_decode_number : Binds K d_decode_number ["block", "at"] w1_decode_number
  w2_decode_number : List Value
  v2_decode_number : Vals [] w2_decode_number
  b2_decode_number : Binds K d_decode_number ["block", "at"] w2_decode_number
  g_decode_number : mg "decode_number" = some (.ref a_decode_number)
  F__check_index : Fun K "_check_index" "_check_index" s__check_index a__check_index d__check_index
  b__check_index : Binds K d__check_index ["block", "at"] []
  g__check_index : mg "_check_index" = some (.ref a__check_index)
  F__last_index : Fun K "_last_index" "_last_index" s__last_index a__last_index d__last_index
  b__last_index : Binds K d__last_index ["block", "at"] []
  g__last_index : mg "_last_index" = some (.ref a__last_index)
  F_encode_frame : Fun K "encode_frame" "encode_frame" s_encode_frame a_encode_frame d_encode_frame
  b_encode_frame : Binds K d_encode_frame ["block"] []
  g_encode_frame : mg "encode_frame" = some (.ref a_encode_frame)
  F_decode_frame : FunD K "decode_frame" "decode_frame" (defArgs s_decode_frame) (defBody s_decode_frame) (defScope s_decode_frame) [.int 0] [] a_decode_frame d_decode_frame
  w1_decode_frame : List Value
  v1_decode_frame : Vals [.int 0] w1_decode_frame
  b1_decode_frame : Binds K d_decode_frame ["block", "at"] w1_decode_frame
  w2_decode_frame : List Value
  v2_decode_frame : Vals [] w2_decode_frame
  b2_decode_frame : Binds K d_decode_frame ["block", "at"] w2_decode_frame
  g_decode_frame : mg "decode_frame" = some (.ref a_decode_frame)
  F_decode_frames : Fun K "decode_frames" "decode_frames" s_decode_frames a_decode_frames d_decode_frames
  b_decode_frames : Binds K d_decode_frames ["block"] []
  g_decode_frames : mg "decode_frames" = some (.ref a_decode_frames)
  F_Disk_init : Fun K "__init__" "Disk.__init__" s_Disk_init a_Disk_init d_Disk_init
  b_Disk_init : Binds K d_Disk_init ["self"] []
  F_Disk_kept : Fun K "kept" "Disk.kept" s_Disk_kept a_Disk_kept d_Disk_kept
  b_Disk_kept : Binds K d_Disk_kept ["self"] []
  F_Disk_loose : Fun K "loose" "Disk.loose" s_Disk_loose a_Disk_loose d_Disk_loose
  b_Disk_loose : Binds K d_Disk_loose ["self"] []
  F_Disk_size : Fun K "size" "Disk.size" s_Disk_size a_Disk_size d_Disk_size
  b_Disk_size : Binds K d_Disk_size ["self"] []
  F_Disk_write : Fun K "write" "Disk.write" s_Disk_write a_Disk_write d_Disk_write
  b_Disk_write : Binds K d_Disk_write ["self", "block"] []
  F_Disk_sync : Fun K "sync" "Disk.sync" s_Disk_sync a_Disk_sync d_Disk_sync
  b_Disk_sync : Binds K d_Disk_sync ["self"] []
  F_Disk_crash : FunD K "crash" "Disk.crash" (defArgs s_Disk_crash) (defBody s_Disk_crash) (defScope s_Disk_crash) [] [("keep", .int 0), ("last", .non)] a_Disk_crash d_Disk_crash
  K_Disk_crash : KBn K d_Disk_crash ["self", "keep", "last"] 1 ["keep", "last"] (fun us ws => us ++ ws) (fun vs zs => vs ++ zs)
  w0_Disk_crash : List Value
  v0_Disk_crash : Vals [.int 0, .non] w0_Disk_crash
  b0_Disk_crash : Binds K d_Disk_crash ["self", "keep", "last"] w0_Disk_crash
  F_Disk_frames : Fun K "frames" "Disk.frames" s_Disk_frames a_Disk_frames d_Disk_frames
  b_Disk_frames : Binds K d_Disk_frames ["self"] []
  F_Disk_mend : Fun K "mend" "Disk.mend" s_Disk_mend a_Disk_mend d_Disk_mend
  b_Disk_mend : Binds K d_Disk_mend ["self"] []
  F__law_cell : Fun K "_law_cell" "_law_cell" s__law_cell a__law_cell d__law_cell
  b__law_cell : Binds K d__law_cell ["script", "k"] []
  g__law_cell : mg "_law_cell" = some (.ref a__law_cell)
  F__law_draws : Fun K "_law_draws" "_law_draws" s__law_draws a__law_draws d__law_draws
  b__law_draws : Binds K d__law_draws ["cell", "many", "limit"] []
  g__law_draws : mg "_law_draws" = some (.ref a__law_draws)
  F__law_block : Fun K "_law_block" "_law_block" s__law_block a__law_block d__law_block
  b__law_block : Binds K d__law_block ["cell", "many"] []
  g__law_block : mg "_law_block" = some (.ref a__law_block)
  F__law_varint : Fun K "_law_varint" "_law_varint" s__law_varint a__law_varint d__law_varint
  b__law_varint : Binds K d__law_varint ["number"] []
  g__law_varint : mg "_law_varint" = some (.ref a__law_varint)
  F__law_sum : Fun K "_law_sum" "_law_sum" s__law_sum a__law_sum d__law_sum
  b__law_sum : Binds K d__law_sum ["block"] []
  g__law_sum : mg "_law_sum" = some (.ref a__law_sum)
  F__law_sealed : Fun K "_law_sealed" "_law_sealed" s__law_sealed a__law_sealed d__law_sealed
  b__law_sealed : Binds K d__law_sealed ["block"] []
  g__law_sealed : mg "_law_sealed" = some (.ref a__law_sealed)
  F__law_frame : Fun K "_law_frame" "_law_frame" s__law_frame a__law_frame d__law_frame
  b__law_frame : Binds K d__law_frame ["block"] []
  g__law_frame : mg "_law_frame" = some (.ref a__law_frame)
  F__law_refused : Fun K "_law_refused" "_law_refused" s__law_refused a__law_refused d__law_refused
  b__law_refused : Binds K d__law_refused ["disk", "count", "byte"] []
  g__law_refused : mg "_law_refused" = some (.ref a__law_refused)
  F__law_stands : Fun K "_law_stands" "_law_stands" s__law_stands a__law_stands d__law_stands
  b__law_stands : Binds K d__law_stands ["disk", "safe", "waiting", "blocks"] []
  g__law_stands : mg "_law_stands" = some (.ref a__law_stands)
  F__law_survivors : Fun K "_law_survivors" "_law_survivors" s__law_survivors a__law_survivors d__law_survivors
  b__law_survivors : Binds K d__law_survivors ["written", "count", "torn"] []
  g__law_survivors : mg "_law_survivors" = some (.ref a__law_survivors)
  F_law : Fun K "law" "law" s_law a_law d_law
  b_law : Binds K d_law ["script"] []
  e_MeridianError : ExcT K mg "MeridianError" c_MeridianError
  u_MeridianError_MeridianError : PySem.W.exmOne K (.ref c_MeridianError) (.ref c_MeridianError) = some true
  q_MeridianError_MeridianError : PySem.W.kitOne K (.ref c_MeridianError) (.ref c_MeridianError) = some true
  u_MeridianError_BadArgument : PySem.W.exmOne K (.ref c_MeridianError) (.ref c_BadArgument) = some false
  q_MeridianError_BadArgument : PySem.W.kitOne K (.ref c_MeridianError) (.ref c_BadArgument) = some false
  u_MeridianError_BadBytes : PySem.W.exmOne K (.ref c_MeridianError) (.ref c_BadBytes) = some false
  q_MeridianError_BadBytes : PySem.W.kitOne K (.ref c_MeridianError) (.ref c_BadBytes) = some false
  u_MeridianError_BadSeal : PySem.W.exmOne K (.ref c_MeridianError) (.ref c_BadSeal) = some false
  q_MeridianError_BadSeal : PySem.W.kitOne K (.ref c_MeridianError) (.ref c_BadSeal) = some false
  e_BadArgument : ExcT K mg "BadArgument" c_BadArgument
  u_BadArgument_MeridianError : PySem.W.exmOne K (.ref c_BadArgument) (.ref c_MeridianError) = some true
  q_BadArgument_MeridianError : PySem.W.kitOne K (.ref c_BadArgument) (.ref c_MeridianError) = some true
  u_BadArgument_BadArgument : PySem.W.exmOne K (.ref c_BadArgument) (.ref c_BadArgument) = some true
  q_BadArgument_BadArgument : PySem.W.kitOne K (.ref c_BadArgument) (.ref c_BadArgument) = some true
  u_BadArgument_BadBytes : PySem.W.exmOne K (.ref c_BadArgument) (.ref c_BadBytes) = some false
  q_BadArgument_BadBytes : PySem.W.kitOne K (.ref c_BadArgument) (.ref c_BadBytes) = some false
  u_BadArgument_BadSeal : PySem.W.exmOne K (.ref c_BadArgument) (.ref c_BadSeal) = some false
  q_BadArgument_BadSeal : PySem.W.kitOne K (.ref c_BadArgument) (.ref c_BadSeal) = some false
  e_BadBytes : ExcT K mg "BadBytes" c_BadBytes
  u_BadBytes_MeridianError : PySem.W.exmOne K (.ref c_BadBytes) (.ref c_MeridianError) = some true
  q_BadBytes_MeridianError : PySem.W.kitOne K (.ref c_BadBytes) (.ref c_MeridianError) = some true
  u_BadBytes_BadArgument : PySem.W.exmOne K (.ref c_BadBytes) (.ref c_BadArgument) = some false
  q_BadBytes_BadArgument : PySem.W.kitOne K (.ref c_BadBytes) (.ref c_BadArgument) = some false
  u_BadBytes_BadBytes : PySem.W.exmOne K (.ref c_BadBytes) (.ref c_BadBytes) = some true
  q_BadBytes_BadBytes : PySem.W.kitOne K (.ref c_BadBytes) (.ref c_BadBytes) = some true
  u_BadBytes_BadSeal : PySem.W.exmOne K (.ref c_BadBytes) (.ref c_BadSeal) = some false
  q_BadBytes_BadSeal : PySem.W.kitOne K (.ref c_BadBytes) (.ref c_BadSeal) = some false
  e_BadSeal : ExcT K mg "BadSeal" c_BadSeal
  u_BadSeal_MeridianError : PySem.W.exmOne K (.ref c_BadSeal) (.ref c_MeridianError) = some true
  q_BadSeal_MeridianError : PySem.W.kitOne K (.ref c_BadSeal) (.ref c_MeridianError) = some true
  u_BadSeal_BadArgument : PySem.W.exmOne K (.ref c_BadSeal) (.ref c_BadArgument) = some false
  q_BadSeal_BadArgument : PySem.W.kitOne K (.ref c_BadSeal) (.ref c_BadArgument) = some false
  u_BadSeal_BadBytes : PySem.W.exmOne K (.ref c_BadSeal) (.ref c_BadBytes) = some true
  q_BadSeal_BadBytes : PySem.W.kitOne K (.ref c_BadSeal) (.ref c_BadBytes) = some true
  u_BadSeal_BadSeal : PySem.W.exmOne K (.ref c_BadSeal) (.ref c_BadSeal) = some true
  q_BadSeal_BadSeal : PySem.W.kitOne K (.ref c_BadSeal) (.ref c_BadSeal) = some true
  k_Disk : ClsT K mg "Disk" a_Disk
  n_Disk__kept : NoAttr K a_Disk "_kept"
  n_Disk__loose : NoAttr K a_Disk "_loose"
  M_Disk : Mk K a_Disk a_Disk_init
  m_Disk_kept : Meth K a_Disk "kept" a_Disk_kept
  m_Disk_loose : Meth K a_Disk "loose" a_Disk_loose
  p_Disk_size : Addr
  m_Disk_size : PropOf K a_Disk "size" p_Disk_size a_Disk_size
  m_Disk_write : Meth K a_Disk "write" a_Disk_write
  m_Disk_sync : Meth K a_Disk "sync" a_Disk_sync
  m_Disk_crash : Meth K a_Disk "crash" a_Disk_crash
  m_Disk_frames : Meth K a_Disk "frames" a_Disk_frames
  m_Disk_mend : Meth K a_Disk "mend" a_Disk_mend
  z_len : mg "len" = none
  z_list : mg "list" = none
  z_property : mg "property" = none
  z_abs : mg "abs" = none
  z_int : mg "int" = none
  z_range : mg "range" = none
  z_isinstance : mg "isinstance" = none
  z_min : mg "min" = none
section
variable {P : Program} {w : World} {K : PySem.W.Frag} {mg : Str → Option Value} {base : Heap}
--PART /work/steering/wip/tools/pre.lean


--PART /work/steering/wip/tools/own.lean


--PART /work/steering/wip/parts/rets.lean

--PART /work/steering/wip/parts/num.lean
/-! ### base 128 -/
def vint (n : Int) : List Int := if n < 128 then [n] else (n % 128 + 128) :: vint (n / 128)
termination_by n.toNat
decreasing_by omega
theorem vint_lt {n : Int} (h : n < 128) : vint n = [n] := by rw [vint, if_pos h]
theorem vint_ge {n : Int} (h : ¬ n < 128) : vint n = (n % 128 + 128) :: vint (n / 128) := by rw [vint, if_neg h]
def NB : Int := 128 ^ 100
theorem vint_len : ∀ (k : Nat) (n : Int), n < 128 ^ (k + 1) → (vint n).length ≤ k + 1
  | 0, n, h => by
    have h' : n < 128 := by simpa using h
    rw [vint_lt h']
    exact Nat.le_refl _
  | k + 1, n, h => by
    by_cases c : n < 128
    · rw [vint_lt c]
      show 1 ≤ _
      omega
    · rw [vint_ge c, List.length_cons]
      have := vint_len k (n / 128) (by
        have e : (128 : Int) ^ (k + 1 + 1) = 128 ^ (k + 1) * 128 := Int.pow_succ ..
        rw [e] at h
        exact Int.ediv_lt_of_lt_mul (by decide) h)
      omega
theorem vint_len100 {n : Int} (h : n < NB) : (vint n).length ≤ 100 := vint_len 99 n h
theorem vint_ne (n : Int) : vint n ≠ [] := by
  by_cases c : n < 128
  · rw [vint_lt c]; simp
  · rw [vint_ge c]; simp
theorem vint_pos (n : Int) : 1 ≤ (vint n).length := by
  have := vint_ne n
  cases e : vint n with
  | nil => exact absurd e this
  | cons a r => simp
theorem vint_byte : ∀ (k : Nat) (n : Int), n < 128 ^ (k + 1) → 0 ≤ n → ∀ b ∈ vint n, 0 ≤ b ∧ b < 256
  | 0, n, h, h0, b, hb => by
    have h' : n < 128 := by simpa using h
    rw [vint_lt h'] at hb
    have : b = n := by simpa using hb
    omega
  | k + 1, n, h, h0, b, hb => by
    by_cases c : n < 128
    · rw [vint_lt c] at hb
      have : b = n := by simpa using hb
      omega
    · rw [vint_ge c] at hb
      rcases List.mem_cons.mp hb with e | e
      · omega
      · exact vint_byte k (n / 128) (by
          have e : (128 : Int) ^ (k + 1 + 1) = 128 ^ (k + 1) * 128 := Int.pow_succ ..
          rw [e] at h
          exact Int.ediv_lt_of_lt_mul (by decide) h) (by omega) b e
theorem vint_byte_NB {n : Int} (h : n < NB) (h0 : 0 ≤ n) : ∀ b ∈ vint n, 0 ≤ b ∧ b < 256 := vint_byte 99 n h h0
/-! ### numbers of the law -/
def lawNum (c : Int) : Int := if c < 10 ^ 18 then ([0, 1, 127, 128, 129, 16383, 16384, 16385, c] : List Int).getD (c % 9).toNat 0 else c % 10 ^ 60
theorem lawNum_lt {c : Int} (h : 0 ≤ c) : 0 ≤ lawNum c ∧ lawNum c < 10 ^ 60 := by
  unfold lawNum
  by_cases k : c < 10 ^ 18
  · rw [if_pos k]
    obtain ⟨j, hj, e⟩ : ∃ j : Nat, j < 9 ∧ (c % 9).toNat = j := ⟨_, by omega, rfl⟩
    rw [e]
    match j, hj with
    | 0, _ | 1, _ | 2, _ | 3, _ | 4, _ | 5, _ | 6, _ | 7, _ => exact ⟨by simp, by simp⟩
    | 8, _ => exact ⟨h, by show c < _; omega⟩
  · rw [if_neg k]
    exact ⟨Int.emod_nonneg _ (by decide), Int.emod_lt_of_pos _ (by decide)⟩
theorem num_NB {n : Int} (h : n < 10 ^ 60) : n < NB := Int.lt_of_lt_of_le h (by decide +kernel)
theorem canLay_dints : ∀ ns : List Int, PyData.canLayAll0 (ns.map PyData.int) = true
  | [] => rfl
  | n :: r => by
    show (PyData.canLay0 (.int n) && PyData.canLayAll0 (r.map PyData.int)) = true
    rw [canLay_dints r]
    rfl
theorem depth_dints : ∀ ns : List Int, PyData.depthAll (ns.map PyData.int) = 0
  | [] => by unfold PyData.depthAll; rfl
  | n :: r => by
    show PyData.depthAll (.int n :: r.map PyData.int) = 0
    unfold PyData.depthAll
    rw [depth_dints r]
    unfold PyData.depth
    rfl
theorem shaped_dInts (ns : List Int) : SeqAt.shaped (dInts ns) = true := by
  unfold SeqAt.shaped dInts
  rw [show PyData.canLay0 (.list (ns.map PyData.int)) = true from by unfold PyData.canLay0; exact canLay_dints ns]
  have : PyData.depth (.list (ns.map PyData.int)) = 1 := by
    unfold PyData.depth
    rw [depth_dints]
  rw [this]
  decide

--PART /work/steering/wip/parts/lawcell.lean
/-! ### the law's own helpers -/
def cell (ns : List Int) (k : Int) : Int := ((ns.getD k.toNat 0).natAbs : Int)
theorem cell_nn (ns : List Int) (k : Int) : 0 ≤ cell ns k := Int.natCast_nonneg _
def sp__law_cell (T : Env K mg) : Sp := fun vs H Q E => ∃ (a : Addr) (ns : List Int) (k : Int), vs = [.ref a, .int k] ∧ SqL K H a (ns.map V.int) ∧ 0 ≤ k ∧ Q (.int (cell ns k)) H
theorem ok__law_cell (T : Env K mg) : FnOk P w K mg base (L2.CX P w) 1 T.a__law_cell T.d__law_cell ["script", "k"] (sp__law_cell T) := by
  refine T.F__law_cell.okX sc__law_cell (fun vs H Q E h => by obtain ⟨_, _, _, rfl, _⟩ := h; rfl) (fun cdv A outer s H vs Q E hr h => ?_)
  obtain ⟨a, ns, k, rfl, hS, hk, h1⟩ := h
  refine ⟨_, (pss_cons (ps_if (pt_cmpR op_lt (pv 1) (pe_callB call_len (by rfl) T.z_len (by decide +kernel) (pa_cons (pv 0) pa_nil)) (nomark _)) (pss_one (ps_ret (pe_callB call_abs (by rfl) T.z_abs (by decide +kernel) (pa_cons (pe_callTy call_int1 (by rfl) T.z_int (by decide +kernel) (pa_cons (pe_ix ix_list (pv 0) (pv 1) (fun _ _ => rfl)) pa_nil)) pa_nil)))) pss_nil)
      (pss_one (ps_ret pe_int))), ?_⟩
  obtain ⟨j, rfl⟩ : ∃ j : Nat, k = (j : Int) := ⟨k.toNat, by omega⟩
  have hc : cell ns (j : Int) = ((ns.getD j 0).natAbs : Int) := rfl
  refine ⟨_, rfl, _, rfl, _, _, rfl, .inl ⟨_, hS, rfl⟩, _, _, rfl, rfl, _, rfl, iteD (fun c => ?_) (fun c => ?_)⟩
  · rw [List.length_map] at c
    have hj : j < ns.length := by omega
    refine ⟨_, rfl, _, rfl, a, _, _, _, rfl, rfl, hS, at_of (j := j) (v := V.int (ns.getD j 0)) rfl (by rw [List.getElem?_map, List.getD_eq_getElem?_getD, List.getElem?_eq_getElem hj]; rfl), .inl ⟨_, rfl, _, rfl, ?_⟩⟩
    have e : (if ns.getD j 0 < 0 then -ns.getD j 0 else ns.getD j 0) = cell ns (j : Int) := by
      rw [hc]
      split <;> omega
    show Q (V.int (if ns.getD j 0 < 0 then -ns.getD j 0 else ns.getD j 0)) H
    rw [e]
    exact h1
  · rw [List.length_map] at c
    show Q (.int 0) H
    have e : cell ns (j : Int) = 0 := by
      rw [hc, List.getD_eq_getElem?_getD, List.getElem?_eq_none (by omega)]
      rfl
    rw [e] at h1
    exact h1

--PART /work/steering/wip/parts/draws.lean
/-! ### drawn numbers -/
def bigGo (l : Int) : Nat → Int → List Int
  | 0, _ => []
  | m + 1, c => c % l :: bigGo l m (c / l)
def mixGo (l : Int) : Nat → Int → Int → List Int
  | 0, _, _ => []
  | m + 1, k, x => ((x * 16807 + 7919 * k) % 2147483647) / 64 % l :: mixGo l m (k + 1) ((x * 16807 + 7919 * k) % 2147483647)
def draws (c : Int) (m : Nat) (l : Int) : List Int := if 10 ^ 18 ≤ c then bigGo l m c else mixGo l m 0 ((c * 48271 + 12345) % 2147483647)
theorem bigGo_len (l : Int) : ∀ m c, (bigGo l m c).length = m
  | 0, _ => rfl
  | m + 1, c => by
    show (bigGo l m _).length + 1 = _
    rw [bigGo_len l m]
theorem mixGo_len (l : Int) : ∀ m k x, (mixGo l m k x).length = m
  | 0, _, _ => rfl
  | m + 1, k, x => by
    show (mixGo l m _ _).length + 1 = _
    rw [mixGo_len l m]
theorem bigGo_mem {l : Int} (hl : 0 < l) : ∀ m c, ∀ d ∈ bigGo l m c, 0 ≤ d ∧ d < l
  | 0, _, d, h => by cases h
  | m + 1, c, d, h => by
    rcases List.mem_cons.mp h with e | e
    · rw [e]
      exact ⟨Int.emod_nonneg _ (by omega), Int.emod_lt_of_pos _ hl⟩
    · exact bigGo_mem hl m _ d e
theorem mixGo_mem {l : Int} (hl : 0 < l) : ∀ m k x, ∀ d ∈ mixGo l m k x, 0 ≤ d ∧ d < l
  | 0, _, _, d, h => by cases h
  | m + 1, k, x, d, h => by
    rcases List.mem_cons.mp h with e | e
    · rw [e]
      exact ⟨Int.emod_nonneg _ (by omega), Int.emod_lt_of_pos _ hl⟩
    · exact mixGo_mem hl m _ _ d e
theorem draws_len (c : Int) (m : Nat) (l : Int) : (draws c m l).length = m := by
  unfold draws
  split
  · exact bigGo_len l m c
  · exact mixGo_len l m _ _
theorem draws_mem {c : Int} {m : Nat} {l : Int} (hl : 0 < l) : ∀ d ∈ draws c m l, 0 ≤ d ∧ d < l := by
  unfold draws
  split
  · exact bigGo_mem hl m c
  · exact mixGo_mem hl m _ _
def sp__law_draws (T : Env K mg) : Sp := fun vs H Q E => ∃ c m l : Int, vs = [.int c, .int m, .int l] ∧ 0 ≤ m ∧ m ≤ 100000 ∧ 0 < l ∧ l < 1000000 ∧ ∀ p H', Same H H' → H p = none → Li H' p (draws c m.toNat l) → Q (.ref p) H'
theorem ok__law_draws (T : Env K mg) : FnOk P w K mg base (L2.CX P w) 1 T.a__law_draws T.d__law_draws ["cell", "many", "limit"] (sp__law_draws T) := by
  refine T.F__law_draws.okX sc__law_draws (fun vs H Q E h => by obtain ⟨_, _, _, rfl, _⟩ := h; rfl) (fun cdv A outer s H vs Q E hr h => ?_)
  obtain ⟨c, m, l, rfl, hm, hm2, hl, hl2, h1⟩ := h
  refine ⟨_, (pss_cons (ps_set (i := 3) sc__law_draws.nd rfl (Or.inl rfl) (pe_lst pa_nil))
      (pss_cons (ps_if (pt_cmpR op_ge (pv 0) (pe_op op_pow pe_int pe_int) (nomark _)) (pss_cons (ps_for (passes_of rfl) rfl (pi_range1 rfl T.z_range (pa_cons (pv 1) pa_nil)) (pg_name (i := 4) sc__law_draws.nd rfl (Or.inl rfl)) (pss_cons (ps_expr (pe_bm PySem.F.plainAttrs_list PySem.F.slot_list_append PySem.F.type_list_append mt_append (pv 3) (pa_cons (pe_op op_mod (pe_callTy call_int1 (by rfl) T.z_int (by decide +kernel) (pa_cons (pv 0) pa_nil)) (pv 2)) pa_nil)))
      (pss_one (ps_set (i := 0) sc__law_draws.nd rfl (Or.inl rfl) (pe_op op_fdiv (pv 0) (pv 2))))))
      (pss_one (ps_ret (pv 3)))) pss_nil)
      (pss_cons (ps_set (i := 5) sc__law_draws.nd rfl (Or.inl rfl) (pe_op op_mod (pe_callTy call_int1 (by rfl) T.z_int (by decide +kernel) (pa_cons (pe_op op_add (pe_op op_mul (pv 0) pe_int) pe_int) pa_nil)) pe_int))
      (pss_cons (ps_for (passes_of rfl) rfl (pi_range1 rfl T.z_range (pa_cons (pv 1) pa_nil)) (pg_name (i := 4) sc__law_draws.nd rfl (Or.inl rfl)) (pss_cons (ps_set (i := 5) sc__law_draws.nd rfl (Or.inl rfl) (pe_op op_mod (pe_callTy call_int1 (by rfl) T.z_int (by decide +kernel) (pa_cons (pe_op op_add (pe_op op_mul (pv 5) pe_int) (pe_op op_mul pe_int (pv 4))) pa_nil)) pe_int))
      (pss_one (ps_expr (pe_bm PySem.F.plainAttrs_list PySem.F.slot_list_append PySem.F.type_list_append mt_append (pv 3) (pa_cons (pe_op op_mod (pe_op op_fdiv (pv 5) pe_int) (pv 2)) pa_nil))))))
      (pss_one (ps_ret (pv 3))))))), ?_⟩
  refine ⟨Nat.zero_le _, fun p np => ?_⟩
  refine ⟨_, rfl, _, _, rfl, rfl, ⟨by decide, by decide, by decide⟩, _, _, rfl, rfl, _, rfl, iteD (fun k => ?_) (fun k => ?_)⟩
  · have k : 10 ^ 18 ≤ c := k
    have ed : draws c m.toNat l = bigGo l m.toNat c := if_pos k
    rw [ed] at h1
    refine ⟨_, rfl, m, rfl, by omega, by omega, for_range (n := m.toNat) (fun i σ H' => ∃ c' v4 pre, σ = [some (.int c'), some (.int m), some (.int l), some (.ref p), v4, none] ∧ i ≤ m.toNat ∧ pre.length = i ∧ pre ++ bigGo l (m.toNat - i) c' = bigGo l m.toNat c ∧ Same H H' ∧ Li H' p pre) ⟨c, none, [], rfl, Nat.zero_le _, rfl, rfl, same_new np, upd_same⟩ ?_ ?_⟩
    · rintro i σ H1 hi ⟨c', v4, pre, rfl, _, hp, he, hs, hL⟩
      refine ⟨_, rfl, .inl ⟨rfl, _, SqL.of hL⟩, _, rfl, .inl ⟨_, rfl, _, rfl, _, _, rfl, rfl, hl, _, _, _, rfl, rfl, hL, szl (by rw [List.length_map]; omega), ?_⟩⟩
      refine ⟨_, rfl, _, rfl, _, _, rfl, rfl, ⟨hl, by omega⟩, ?_⟩
      refine ⟨c' / l, _, pre ++ [c' % l], rfl, by omega, by rw [List.length_append, hp]; rfl, ?_, same_mut hs np, li_push⟩
      rw [← he, List.append_assoc, show m.toNat - i = (m.toNat - (i + 1)) + 1 by omega]
      rfl
    · rintro σ H1 ⟨c', v4, pre, rfl, _, hp, he, hs, hL⟩
      refine ⟨_, rfl, h1 p _ hs np ?_⟩
      rw [← he, Nat.sub_self]
      show Li _ _ (pre ++ [])
      rw [List.append_nil]
      exact hL
  · have k : ¬ 10 ^ 18 ≤ c := k
    have ed : draws c m.toNat l = mixGo l m.toNat 0 ((c * 48271 + 12345) % 2147483647) := if_neg k
    rw [ed] at h1
    refine ⟨_, rfl, _, _, rfl, rfl, .inr ⟨by decide, by decide⟩, _, _, rfl, rfl, .inl ⟨_, rfl, _, _, rfl, rfl, by show (0 : Int) < _; decide, ?_⟩⟩
    refine ⟨_, rfl, m, rfl, by omega, by omega, for_range (n := m.toNat) (fun i σ H' => ∃ x v4 pre, σ = [some (.int c), some (.int m), some (.int l), some (.ref p), v4, some (.int x)] ∧ i ≤ m.toNat ∧ pre.length = i ∧ pre ++ mixGo l (m.toNat - i) (0 + (i : Int)) x = mixGo l m.toNat 0 ((c * 48271 + 12345) % 2147483647) ∧ Same H H' ∧ Li H' p pre) ⟨_, none, [], rfl, Nat.zero_le _, rfl, rfl, same_new np, upd_same⟩ ?_ ?_⟩
    · rintro i σ H1 hi ⟨x, v4, pre, rfl, _, hp, he, hs, hL⟩
      refine ⟨_, rfl, _, _, rfl, rfl, .inr ⟨by decide, by decide⟩, _, rfl, _, _, rfl, rfl, .inl ⟨by decide, by decide⟩, _, _, rfl, rfl, .inl ⟨_, rfl, _, _, rfl, rfl, by show (0 : Int) < _; decide, ?_⟩⟩
      refine ⟨_, rfl, .inl ⟨rfl, _, SqL.of hL⟩, _, rfl, _, _, rfl, rfl, ⟨by decide, by decide⟩, _, rfl, _, _, rfl, rfl, hl, _, _, _, rfl, rfl, hL, szl (by rw [List.length_map]; omega), ?_⟩
      refine ⟨_, _, pre ++ [((x * 16807 + 7919 * (0 + (i : Int))) % 2147483647) / 64 % l], rfl, by omega, by rw [List.length_append, hp]; rfl, ?_, same_mut hs np, li_push⟩
      rw [← he, List.append_assoc, show m.toNat - i = (m.toNat - (i + 1)) + 1 by omega, show (0 + ((i + 1 : Nat) : Int)) = 0 + (i : Int) + 1 by omega]
      rfl
    · rintro σ H1 ⟨x, v4, pre, rfl, _, hp, he, hs, hL⟩
      refine ⟨_, rfl, h1 p _ hs np ?_⟩
      rw [← he, Nat.sub_self]
      show Li _ _ (pre ++ [])
      rw [List.append_nil]
      exact hL
def blk (c : Int) (m : Nat) : List Int := (draws c m 997).map (· % 256)
theorem blk_len (c : Int) (m : Nat) : (blk c m).length = m := by
  unfold blk
  rw [List.length_map, draws_len]
theorem blk_mem (c : Int) (m : Nat) : ∀ d ∈ blk c m, 0 ≤ d ∧ d < 256 := by
  intro d h
  obtain ⟨e, _, rfl⟩ := List.mem_map.mp h
  exact ⟨Int.emod_nonneg _ (by decide), Int.emod_lt_of_pos _ (by decide)⟩
def sp__law_block (T : Env K mg) : Sp := fun vs H Q E => ∃ c m : Int, vs = [.int c, .int m] ∧ 0 ≤ m ∧ m ≤ 100000 ∧ ∀ p H', Same H H' → H p = none → Li H' p (blk c m.toNat) → Q (.ref p) H'
theorem ok__law_block (T : Env K mg) : FnOk P w K mg base (L2.CX P w) 2 T.a__law_block T.d__law_block ["cell", "many"] (sp__law_block T) := by
  refine T.F__law_block.okX sc__law_block (fun vs H Q E h => by obtain ⟨_, _, rfl, _⟩ := h; rfl) (fun cdv A outer s H vs Q E hr h => ?_)
  obtain ⟨c, m, rfl, hm, hm2, h1⟩ := h
  have hu64 := hu64_of hr
  have G__law_draws := ok__law_draws (P := P) (w := w) (base := base) T
  refine ⟨_, (pss_one (ps_ret (pe_lc (own := [("number", 2)]) (by rfl) sc__law_block.nd (pi_list (pe_call G__law_draws (hr.mono (by decide)) rfl T.g__law_draws T.F__law_draws.kp T.b__law_draws .nil passL (pa_cons (pv 0) (pa_cons (pv 1) (pa_cons pe_int pa_nil))))) (blkOk_by (own := [("number", 2)]) (N := ["cell", "many", "number"]) (sc := defScope s__law_block) (by decide +kernel)) (fun _ _ _ _ _ => (pg_name (i := 2) sc__law_block.nd rfl (Or.inl rfl))) (fun _ _ _ _ _ => pts_nil) (fun _ _ _ _ _ => (pe_op op_mod (pe_callTy call_int1 (by rfl) T.z_int (by decide +kernel) (pa_cons (pv 2) pa_nil)) pe_int))))), ?_⟩
  refine ⟨_, rfl, _, rfl, c, m, 997, rfl, hm, hm2, by decide, by decide, fun p H1 s1 np hL => ?_⟩
  have hlen := draws_len c m.toNat 997
  refine ⟨p, rfl, ⟨_, SqL.of hL⟩, fun D hD => lc_list (K := K) (a := p) (xs := (draws c m.toNat 997).map V.int) (fun i H' => Same H1 H' ∧ Li H' D ((draws c m.toNat 997).take i |>.map (· % 256))) ⟨same_new hD, upd_same⟩ (fun i H' _ h => SqL.of (h.1 _ _ hL)) ?_ ?_⟩
  · rintro i x H' hx ⟨hs, hl⟩
    obtain ⟨n, hn, rfl⟩ := mem_int hx
    have hi : i < (draws c m.toNat 997).length := (List.getElem?_eq_some_iff.mp hn).1
    refine ⟨rfl, yes_if ?_⟩
    refine ⟨_, rfl, .inl ⟨_, rfl, _, _, rfl, rfl, by show (0 : Int) < _; decide, ?_⟩⟩
    refine ⟨_, hl, szl (by rw [List.length_map, List.length_map, List.length_take]; omega), same_mut hs hD, ?_⟩
    rw [take_succ hn, List.map_append]
    exact li_push
  · rintro H' ⟨hs, hl⟩
    rw [List.length_map, List.take_length] at hl
    exact h1 D H' (s1.trans hs) (s1.free hD) hl

--PART /work/steering/wip/parts/lawvar.lean
def sp__law_varint (T : Env K mg) : Sp := fun vs H Q E => ∃ n : Int, vs = [.int n] ∧ 0 ≤ n ∧ n < NB ∧ ∀ p H', Same H H' → H p = none → H' p = some (.lst ((vint n).map V.int)) → Q (.ref p) H'
theorem ok__law_varint (T : Env K mg) : FnOk P w K mg base (L2.CX P w) 1 T.a__law_varint T.d__law_varint ["number"] (sp__law_varint T) := by
  refine T.F__law_varint.okX sc__law_varint (fun vs H Q E h => by obtain ⟨n, rfl, _⟩ := h; rfl) (fun cdv A outer s H vs Q E hr h => ?_)
  obtain ⟨n, rfl, hn, hb, h1⟩ := h
  refine ⟨_, (pss_cons (ps_set (i := 1) sc__law_varint.nd rfl (Or.inl rfl) (pe_lst pa_nil))
      (pss_cons (ps_while (passes_of rfl) (pt_cmpR op_gt (pv 0) pe_int (nomark _)) (pss_cons (ps_expr (pe_bm PySem.F.plainAttrs_list PySem.F.slot_list_append PySem.F.type_list_append mt_append (pv 1) (pa_cons (pe_op op_add (pe_op op_mod (pe_callTy call_int1 (by rfl) T.z_int (by decide +kernel) (pa_cons (pv 0) pa_nil)) pe_int) pe_int) pa_nil)))
      (pss_one (ps_set (i := 0) sc__law_varint.nd rfl (Or.inl rfl) (pe_op op_fdiv (pv 0) pe_int)))))
      (pss_cons (ps_expr (pe_bm PySem.F.plainAttrs_list PySem.F.slot_list_append PySem.F.type_list_append mt_append (pv 1) (pa_cons (pv 0) pa_nil)))
      (pss_one (ps_ret (pv 1)))))), ?_⟩
  refine ⟨Nat.zero_le _, fun p np => ?_⟩
  refine ⟨fun m σ H' => ∃ (k : Int) (pre : List Int), m = k.toNat ∧ σ = [some (.int k), some (.ref p)] ∧ 0 ≤ k ∧ pre ++ vint k = vint n ∧ Same H H' ∧ H' p = some (.lst (pre.map V.int)), ⟨_, n, [], rfl, rfl, hn, rfl, same_new np, upd_same⟩, ?_⟩
  rintro m σ H' ⟨k, pre, rfl, rfl, hk, hp, hs, hl⟩
  have hlen : pre.length + (vint k).length ≤ 100 := by
    rw [← List.length_append, hp]
    exact vint_len100 hb
  have hpos := vint_pos k
  refine ⟨_, rfl, _, _, rfl, rfl, _, rfl, iteD (fun c => ?_) (fun c => ?_)⟩
  · refine ⟨fun σ' H' => _, fun _ _ h => h, ?_⟩
    refine ⟨_, rfl, .inl ⟨rfl, _, SqL.of hl⟩, _, rfl, .inl ⟨_, rfl, _, _, rfl, rfl, by show (0 : Int) < _; decide, _, _, rfl, rfl, _, _, _, rfl, rfl, hl, by rw [List.length_map]; exact small1000 (by omega), ?_⟩⟩
    refine ⟨_, rfl, _, _, rfl, rfl, ⟨by decide, by decide⟩, ?_⟩
    refine ⟨(k / 128).toNat, by omega, k / 128, pre ++ [k % 128 + 128], rfl, rfl, by omega, ?_, same_mut hs np, ?_⟩
    · rw [List.append_assoc, ← hp, vint_ge (n := k) (by omega)]
      rfl
    · rw [upd_same, List.map_append]
      rfl
  · refine ⟨_, rfl, .inl ⟨rfl, _, SqL.of hl⟩, _, rfl, _, _, _, rfl, rfl, hl, by rw [List.length_map]; exact small1000 (by omega), ?_⟩
    refine ⟨_, rfl, ?_⟩
    refine h1 p _ (same_mut hs np) np ?_
    rw [upd_same, ← hp, vint_lt (n := k) (by omega), List.map_append]
    rfl

--PART /work/steering/wip/parts/seals.lean
/-! ### checksums -/
def ckStep (t b : Int) : Int := (31 * t + b + 1) % 16000057
def ck (ns : List Int) : Int := ns.foldl ckStep 7
theorem ckStep_lt (t b : Int) : 0 ≤ ckStep t b ∧ ckStep t b < 16000057 := ⟨Int.emod_nonneg _ (by decide), Int.emod_lt_of_pos _ (by decide)⟩
theorem fold_lt : ∀ (ns : List Int) (t : Int), 0 ≤ t ∧ t < 16000057 → 0 ≤ ns.foldl ckStep t ∧ ns.foldl ckStep t < 16000057
  | [], _, h => h
  | n :: r, t, _ => fold_lt r _ (ckStep_lt t n)
theorem ck_lt (ns : List Int) : 0 ≤ ck ns ∧ ck ns < 16000057 := fold_lt ns 7 ⟨by decide, by decide⟩
theorem fold_inj : ∀ (ns : List Int) (t u : Int), 0 ≤ t ∧ t < 16000057 → 0 ≤ u ∧ u < 16000057 → ns.foldl ckStep t = ns.foldl ckStep u → t = u
  | [], _, _, _, _, h => h
  | n :: r, t, u, ht, hu, h => by
    have e := fold_inj r _ _ (ckStep_lt t n) (ckStep_lt u n) h
    unfold ckStep at e
    omega
def ckb (ns : List Int) : List Int := [ck ns / 65536, ck ns / 256 % 256, ck ns % 256]
theorem ckb_mem (ns : List Int) : ∀ b ∈ ckb ns, 0 ≤ b ∧ b < 256 := by
  intro b h
  have := ck_lt ns
  simp [ckb] at h
  rcases h with rfl | rfl | rfl <;> omega
theorem ckb_inj {ns ms : List Int} (h : ckb ns = ckb ms) : ck ns = ck ms := by
  have h1 := ck_lt ns
  have h2 := ck_lt ms
  simp [ckb] at h
  omega
def sealed (ns : List Int) : List Int := ns ++ ckb ns
theorem sealed_len (ns : List Int) : (sealed ns).length = ns.length + 3 := by simp [sealed, ckb]
theorem sealed_mem {ns : List Int} (h : ∀ b ∈ ns, 0 ≤ b ∧ b < 256) : ∀ b ∈ sealed ns, 0 ≤ b ∧ b < 256 := by
  intro b hb
  rcases List.mem_append.mp hb with e | e
  · exact h b e
  · exact ckb_mem ns b e
/-- what open_seal takes -/
def openOk (ns : List Int) : Prop := ns.drop (ns.length - 3) = ckb (ns.take (ns.length - 3))
theorem take_sealed (ns : List Int) : (sealed ns).take ((sealed ns).length - 3) = ns := by
  rw [sealed_len, Nat.add_sub_cancel]
  exact List.take_left' rfl
theorem drop_sealed (ns : List Int) : (sealed ns).drop ((sealed ns).length - 3) = ckb ns := by
  rw [sealed_len, Nat.add_sub_cancel]
  exact List.drop_left' rfl
theorem open_sealed (ns : List Int) : openOk (sealed ns) := by
  unfold openOk
  rw [take_sealed, drop_sealed]
theorem sealed_of_open {ns : List Int} (h : openOk ns) : sealed (ns.take (ns.length - 3)) = ns := by
  unfold sealed
  rw [← h, List.take_append_drop]
/-- one byte of a sealed block replaced by another: it is opened no more -/
theorem spoilt_not (ns : List Int) (i : Nat) (x : Int) (hi : i < (sealed ns).length) (hne : (sealed ns)[i]? ≠ some x)
    (hb : ∀ b ∈ ns, 0 ≤ b ∧ b < 256) (hx : 0 ≤ x ∧ x < 256) : ¬ openOk ((sealed ns).set i x) := by
  intro h
  unfold openOk at h
  rw [List.length_set, sealed_len, Nat.add_sub_cancel] at h
  by_cases c : i < ns.length
  · have e1 : ((sealed ns).set i x).take ns.length = ns.set i x := by
      unfold sealed
      rw [List.set_append_left _ _ c]
      exact List.take_left' (by rw [List.length_set])
    have e2 : ((sealed ns).set i x).drop ns.length = ckb ns := by
      unfold sealed
      rw [List.set_append_left _ _ c]
      exact List.drop_left' (by rw [List.length_set])
    rw [e1, e2] at h
    have e := ckb_inj h
    have hs : ns = ns.take i ++ ns[i] :: ns.drop (i + 1) := by rw [List.getElem_cons_drop, List.take_append_drop]
    have hs2 : ns.set i x = ns.take i ++ x :: ns.drop (i + 1) := by rw [List.set_eq_take_append_cons_drop, if_pos c]
    unfold ck at e
    rw [hs2] at e
    rw [show ns.foldl ckStep 7 = (ns.take i ++ ns[i] :: ns.drop (i + 1)).foldl ckStep 7 from congrArg (List.foldl ckStep 7) hs] at e
    rw [List.foldl_append, List.foldl_append, List.foldl_cons, List.foldl_cons] at e
    have e3 := fold_inj _ _ _ (ckStep_lt _ _) (ckStep_lt _ _) e
    have hne' : ns[i] ≠ x := fun q => hne (by
      unfold sealed
      rw [List.getElem?_append_left c, List.getElem?_eq_getElem c, q])
    have b1 := hb ns[i] (List.getElem_mem c)
    unfold ckStep at e3
    omega
  · rw [sealed_len] at hi
    have e1 : ((sealed ns).set i x).take ns.length = ns := by
      unfold sealed
      rw [List.set_append_right _ _ (by omega)]
      exact List.take_left' rfl
    have e2 : ((sealed ns).set i x).drop ns.length = (ckb ns).set (i - ns.length) x := by
      unfold sealed
      rw [List.set_append_right _ _ (by omega)]
      exact List.drop_left' rfl
    rw [e1, e2] at h
    have hl : (ckb ns).length = 3 := rfl
    have g : ((ckb ns).set (i - ns.length) x)[i - ns.length]? = some x := List.getElem?_set_self (by omega)
    rw [h] at g
    apply hne
    unfold sealed
    rw [List.getElem?_append_right (by omega)]
    exact g
def sp_checksum (T : Env K mg) : Sp := fun vs H Q E => ∃ (a : Addr) (ns : List Int), vs = [.ref a] ∧ SqL K H a (ns.map V.int) ∧ Q (.int (ck ns)) H
theorem ok_checksum (T : Env K mg) : FnOk P w K mg base (L2.CX P w) 1 T.a_checksum T.d_checksum ["block"] (sp_checksum T) := by
  refine T.F_checksum.okX sc_checksum (fun vs H Q E h => by obtain ⟨_, _, rfl, _⟩ := h; rfl) (fun cdv A outer s H vs Q E hr h => ?_)
  obtain ⟨a, ns, rfl, hS, h1⟩ := h
  refine ⟨_, (pss_cons (ps_set (i := 1) sc_checksum.nd rfl (Or.inl rfl) pe_int)
      (pss_cons (ps_for (passes_of rfl) rfl (pi_list (pv 0)) (pg_name (i := 2) sc_checksum.nd rfl (Or.inl rfl)) (pss_one (ps_set (i := 1) sc_checksum.nd rfl (Or.inl rfl) (pe_op op_mod (pe_op op_add (pe_op op_add (pe_op op_mul pe_int (pv 1)) (pv 2)) pe_int) pe_int))))
      (pss_one (ps_ret (pv 1))))), ?_⟩
  refine ⟨_, rfl, a, rfl, ⟨_, hS⟩, for_list (K := K) (a := a) (xs := ns.map V.int) (fun i σ H' => ∃ v, σ = [some (.ref a), some (.int ((ns.take i).foldl ckStep 7)), v] ∧ H' = H) ⟨none, rfl, rfl⟩ (fun i σ H' _ ⟨_, _, e⟩ => by rw [e]; exact hS) ?_ ?_⟩
  · rintro i y σ H' hi ⟨v, rfl, rfl⟩
    obtain ⟨n, hn, rfl⟩ := mem_int hi
    refine ⟨_, rfl, _, _, rfl, rfl, .inl ⟨by decide, by decide⟩, _, rfl, _, _, rfl, rfl, _, _, rfl, rfl, _, _, rfl, rfl, by show (0 : Int) < _; decide, ?_⟩
    refine ⟨some (.int n), ?_, rfl⟩
    rw [take_succ hn, List.foldl_append]
    rfl
  · rintro σ H' ⟨v, rfl, rfl⟩
    rw [List.length_map, List.take_length]
    exact ⟨_, rfl, h1⟩
def sp__checksum_bytes (T : Env K mg) : Sp := fun vs H Q E => ∃ (a : Addr) (ns : List Int), vs = [.ref a] ∧ SqL K H a (ns.map V.int) ∧ ∀ p H', Same H H' → H p = none → Li H' p (ckb ns) → Q (.ref p) H'
theorem ok__checksum_bytes (T : Env K mg) : FnOk P w K mg base (L2.CX P w) 2 T.a__checksum_bytes T.d__checksum_bytes ["block"] (sp__checksum_bytes T) := by
  refine T.F__checksum_bytes.okX sc__checksum_bytes (fun vs H Q E h => by obtain ⟨_, _, rfl, _⟩ := h; rfl) (fun cdv A outer s H vs Q E hr h => ?_)
  obtain ⟨a, ns, rfl, hS, h1⟩ := h
  have hu64 := hu64_of hr
  have G_checksum := ok_checksum (P := P) (w := w) (base := base) T
  refine ⟨_, (pss_cons (ps_set (i := 1) sc__checksum_bytes.nd rfl (Or.inl rfl) (pe_call G_checksum (hr.mono (by decide)) rfl T.g_checksum T.F_checksum.kp T.b_checksum .nil passL (pa_cons (pv 0) pa_nil)))
      (pss_one (ps_ret (pe_lst (pa_cons (pe_op op_fdiv (pv 1) pe_int) (pa_cons (pe_op op_mod (pe_op op_fdiv (pv 1) pe_int) pe_int) (pa_cons (pe_op op_mod (pv 1) pe_int) pa_nil))))))), ?_⟩
  refine ⟨_, rfl, a, ns, rfl, hS, ?_⟩
  refine ⟨_, rfl, _, _, rfl, rfl, ⟨by decide, by decide⟩, _, rfl, _, _, rfl, rfl, ⟨by decide, by decide⟩, _, _, rfl, rfl, by show (0 : Int) < _; decide, _, rfl, _, _, rfl, rfl, by show (0 : Int) < _; decide, (by show 3 ≤ sizeLine; decide), fun p np => ?_⟩
  exact h1 p _ (same_new np) np upd_same
def sp_seal (T : Env K mg) : Sp := fun vs H Q E => ∃ (a : Addr) (ns : List Int), vs = [.ref a] ∧ Li H a ns ∧ ns.length ≤ 500000 ∧ ∀ p H', Same H H' → H p = none → Li H' p (sealed ns) → Q (.ref p) H'
theorem ok_seal (T : Env K mg) : FnOk P w K mg base (L2.CX P w) 3 T.a_seal T.d_seal ["block"] (sp_seal T) := by
  refine T.F_seal.okX sc_seal (fun vs H Q E h => by obtain ⟨_, _, rfl, _⟩ := h; rfl) (fun cdv A outer s H vs Q E hr h => ?_)
  obtain ⟨a, ns, rfl, hL, hlen, h1⟩ := h
  have hu64 := hu64_of hr
  have G__checksum_bytes := ok__checksum_bytes (P := P) (w := w) (base := base) T
  refine ⟨_, (pss_one (ps_ret (pe_op op_cat (pv 0) (pe_call G__checksum_bytes (hr.mono (by decide)) rfl T.g__checksum_bytes T.F__checksum_bytes.kp T.b__checksum_bytes .nil passL (pa_cons (pv 0) pa_nil))))), ?_⟩
  refine ⟨_, rfl, _, rfl, a, ns, rfl, SqL.of hL, fun p H1 s1 np hp => ?_⟩
  refine ⟨a, p, _, _, rfl, rfl, s1 _ _ hL, hp, szle (by rw [List.length_map]; show _ + 3 ≤ _; omega), fun q nq => ?_⟩
  exact h1 q _ (s1.trans (same_new nq)) (s1.free nq) (by show upd _ _ _ _ = _; rw [upd_same, ← List.map_append]; rfl)
def sp_open_seal (T : Env K mg) : Sp := fun vs H Q E => ∃ (a : Addr) (ns : List Int), vs = [.ref a] ∧ Li H a ns ∧ ns.length ≤ 1000000 ∧ (ns.length < 3 → E (.ref T.c_BadBytes) none H) ∧
  (3 ≤ ns.length → openOk ns → ∀ p H', Same H H' → H p = none → Li H' p (ns.take (ns.length - 3)) → Q (.ref p) H') ∧ (3 ≤ ns.length → ¬ openOk ns → ∀ H', Same H H' → E (.ref T.c_BadSeal) none H')
theorem ok_open_seal (T : Env K mg) : FnOk P w K mg base (L2.CX P w) 3 T.a_open_seal T.d_open_seal ["block"] (sp_open_seal T) := by
  refine T.F_open_seal.okX sc_open_seal (fun vs H Q E h => by obtain ⟨_, _, rfl, _⟩ := h; rfl) (fun cdv A outer s H vs Q E hr h => ?_)
  obtain ⟨a, ns, rfl, hL, hlen, h1, h2, h3⟩ := h
  have hu64 := hu64_of hr
  have G__checksum_bytes := ok__checksum_bytes (P := P) (w := w) (base := base) T
  refine ⟨_, (pss_cons (ps_if (pt_cmpR op_lt (pe_callB call_len (by rfl) T.z_len (by decide +kernel) (pa_cons (pv 0) pa_nil)) pe_int (nomark _)) (pss_one (ps_raise rfl (takes_of rfl rfl rfl rfl) (pmk_own PySem.F.excBase_ValueError T.e_BadBytes.xP T.e_BadBytes.gC T.e_BadBytes.kC (raises_own T.e_BadBytes.bP T.e_BadBytes.tP) (by exact rfl)))) pss_nil)
      (pss_cons (ps_set (i := 1) sc_open_seal.nd rfl (Or.inl rfl) (pe_slice sl_list (pv 0) po_none (po_some (pe_un un_neg pe_int))))
      (pss_cons (ps_if (pt_cmpR (op_neD hu64) (pe_slice sl_list (pv 0) (po_some (pe_un un_neg pe_int)) po_none) (pe_call G__checksum_bytes (hr.mono (by decide)) rfl T.g__checksum_bytes T.F__checksum_bytes.kp T.b__checksum_bytes .nil passL (pa_cons (pv 1) pa_nil)) (nomark _)) (pss_one (ps_raise rfl (takes_of rfl rfl rfl rfl) (pmk_own PySem.F.excBase_ValueError T.e_BadSeal.xP T.e_BadSeal.gC T.e_BadSeal.kC (raises_own T.e_BadSeal.bP T.e_BadSeal.tP) (by exact rfl)))) pss_nil)
      (pss_one (ps_ret (pv 1)))))), ?_⟩
  refine ⟨_, rfl, _, _, rfl, .inl ⟨_, SqL.of hL, rfl⟩, _, _, rfl, rfl, _, rfl, iteD (fun c => ?_) (fun c => ?_)⟩
  · rw [List.length_map] at c
    exact h1 (by omega)
  · rw [List.length_map] at c
    refine ⟨_, rfl, _, rfl, _, rfl, a, _, rfl, SqL.of hL, fun p np => ?_⟩
    rw [show cutV (ns.map V.int) none (some (-3)) = (ns.take (ns.length - 3)).map V.int by rw [show (-3 : Int) = -((3 : Nat) : Int) from rfl, cut_ton _ 3 (by decide), List.length_map, List.map_take]]
    refine ⟨_, rfl, _, rfl, _, rfl, a, _, rfl, SqL.of (same_new np _ _ hL), fun q nq => ?_⟩
    rw [show cutV (ns.map V.int) (some (-3)) none = (ns.drop (ns.length - 3)).map V.int by rw [show (-3 : Int) = -((3 : Nat) : Int) from rfl, cut_fromn _ 3 (by decide), List.length_map, List.map_drop]]
    have hpL := same_new (o := .lst ((ns.drop (ns.length - 3)).map V.int)) nq _ _ (show upd H p _ p = _ from upd_same)
    refine ⟨_, rfl, p, _, rfl, SqL.of hpL, fun r H3 s3 nr hr3 => ?_⟩
    refine ⟨_, _, dp_ints (SqL.of (s3 _ _ upd_same)), dp_ints (SqL.of hr3), shaped_dInts _, shaped_dInts _, _, rfl, ?_⟩
    rw [eqv_dInts]
    refine iteN (fun k => ?_) (fun k => ?_)
    · exact h3 (by omega) k _ (((same_new np).trans (same_new nq)).trans s3)
    · exact ⟨_, rfl, h2 (by omega) k p _ (((same_new np).trans (same_new nq)).trans s3) np (s3 _ _ hpL)⟩

--PART /work/steering/wip/parts/encnum.lean
def sp_encode_number (T : Env K mg) : Sp := fun vs H Q E => ∃ n : Int, vs = [.int n] ∧ n < NB ∧ (0 ≤ n → ∀ p H', Same H H' → H p = none → H' p = some (.lst ((vint n).map V.int)) → Q (.ref p) H') ∧ (n < 0 → E (.ref T.c_BadArgument) none H)
theorem ok_encode_number (T : Env K mg) : FnOk P w K mg base (L2.CX P w) 1 T.a_encode_number T.d_encode_number ["number"] (sp_encode_number T) := by
  refine T.F_encode_number.okX sc_encode_number (fun vs H Q E h => by obtain ⟨n, rfl, _⟩ := h; rfl) (fun cdv A outer s H vs Q E hr h => ?_)
  obtain ⟨n, rfl, hb, h1, h2⟩ := h
  refine ⟨_, (pss_cons (ps_if (pt_cmpR op_lt (pv 0) pe_int (nomark _)) (pss_one (ps_raise rfl (takes_of rfl rfl rfl rfl) (pmk_own PySem.F.excBase_ValueError T.e_BadArgument.xP T.e_BadArgument.gC T.e_BadArgument.kC (raises_own T.e_BadArgument.bP T.e_BadArgument.tP) (by exact rfl)))) pss_nil)
      (pss_cons (ps_set (i := 1) sc_encode_number.nd rfl (Or.inl rfl) (pe_lst pa_nil))
      (pss_cons (ps_while (passes_of rfl) (pt_cmpR op_ge (pv 0) pe_int (nomark _)) (pss_cons (ps_expr (pe_bm PySem.F.plainAttrs_list PySem.F.slot_list_append PySem.F.type_list_append mt_append (pv 1) (pa_cons (pe_op op_add (pe_op op_mod (pv 0) pe_int) pe_int) pa_nil)))
      (pss_one (ps_set (i := 0) sc_encode_number.nd rfl (Or.inl rfl) (pe_op op_fdiv (pv 0) pe_int)))))
      (pss_cons (ps_expr (pe_bm PySem.F.plainAttrs_list PySem.F.slot_list_append PySem.F.type_list_append mt_append (pv 1) (pa_cons (pv 0) pa_nil)))
      (pss_one (ps_ret (pv 1))))))), ?_⟩
  refine ⟨_, rfl, _, _, rfl, rfl, _, rfl, ite2 (fun c => h2 (of_decide_eq_true c)) (fun c => ?_)⟩
  have hn : 0 ≤ n := by
    have := of_decide_eq_false (eq_false_of_ne_true c)
    omega
  refine ⟨Nat.zero_le _, fun p np => ?_⟩
  refine ⟨fun m σ H' => ∃ (k : Int) (pre : List Int), m = k.toNat ∧ σ = [some (.int k), some (.ref p)] ∧ 0 ≤ k ∧ pre ++ vint k = vint n ∧ Same H H' ∧ H' p = some (.lst (pre.map V.int)), ⟨_, n, [], rfl, rfl, hn, rfl, same_new np, upd_same⟩, ?_⟩
  rintro m σ H' ⟨k, pre, rfl, rfl, hk, hp, hs, hl⟩
  have hlen : pre.length + (vint k).length ≤ 100 := by
    rw [← List.length_append, hp]
    exact vint_len100 hb
  have hpos := vint_pos k
  refine ⟨_, rfl, _, _, rfl, rfl, _, rfl, ite2 (fun c => ?_) (fun c => ?_)⟩
  · have c := of_decide_eq_true c
    refine ⟨fun σ' H' => _, fun _ _ h => h, ?_⟩
    refine ⟨_, rfl, .inl ⟨rfl, _, SqL.of hl⟩, _, rfl, _, _, rfl, rfl, by show (0 : Int) < _; decide, _, _, rfl, rfl, _, _, _, rfl, rfl, hl, by rw [List.length_map]; exact small1000 (by omega), ?_⟩
    refine ⟨_, rfl, _, _, rfl, rfl, ⟨by decide, by decide⟩, ?_⟩
    refine ⟨(k / 128).toNat, by omega, k / 128, pre ++ [k % 128 + 128], rfl, rfl, by omega, ?_, same_mut hs np, ?_⟩
    · rw [List.append_assoc, ← hp, vint_ge (n := k) (by omega)]
      rfl
    · rw [upd_same, List.map_append]
      rfl
  · have c := of_decide_eq_false (eq_false_of_ne_true c)
    refine ⟨_, rfl, .inl ⟨rfl, _, SqL.of hl⟩, _, rfl, _, _, _, rfl, rfl, hl, by rw [List.length_map]; exact small1000 (by omega), ?_⟩
    refine ⟨_, rfl, ?_⟩
    refine h1 hn p _ (same_mut hs np) np ?_
    rw [upd_same, ← hp, vint_lt (n := k) (by omega), List.map_append]
    rfl

--PART /work/steering/wip/parts/decode.lean
/-! ### reading numbers -/
def scan : List Int → Option (List Int × List Int)
  | [] => none
  | b :: r => if 128 ≤ b then (scan r).map (fun p => (b :: p.1, p.2)) else some ([b], r)
def value : List Int → Int
  | [] => 0
  | b :: r => b % 128 + 128 * value r
def dec (ns : List Int) (i : Int) : Option (Int × Int) :=
  if i < 0 then none else match scan (ns.drop i.toNat) with
    | none => none
    | some (d, _) => if d.getLast? = some 0 ∧ 1 < d.length then none else some (value d, i + d.length)
theorem scan_pre : ∀ (pre l : List Int), (∀ b ∈ pre, 128 ≤ b) → scan (pre ++ l) = (scan l).map (fun p => (pre ++ p.1, p.2))
  | [], l, _ => by
    show scan l = _
    cases scan l with
    | none => rfl
    | some p => rfl
  | b :: pre, l, h => by
    show (if 128 ≤ b then (scan (pre ++ l)).map (fun p => (b :: p.1, p.2)) else _) = _
    rw [if_pos (h b (by simp)), scan_pre pre l fun x hx => h x (by simp [hx])]
    cases scan l with
    | none => rfl
    | some p => rfl
theorem scan_none {l : List Int} (h : ∀ b ∈ l, 128 ≤ b) : scan l = none := by
  have := scan_pre l [] h
  rw [List.append_nil] at this
  rw [this]
  rfl
theorem scan_stop (b : Int) (r : List Int) (h : ¬ 128 ≤ b) : scan (b :: r) = some ([b], r) := by
  show (if 128 ≤ b then _ else _) = _
  rw [if_neg h]
theorem scan_some : ∀ (l d t : List Int), scan l = some (d, t) → l = d ++ t ∧ d ≠ []
  | [], _, _, h => by cases h
  | b :: r, d, t, h => by
    by_cases c : 128 ≤ b
    · have e : scan (b :: r) = (scan r).map (fun p => (b :: p.1, p.2)) := by
        show (if 128 ≤ b then _ else _) = _
        rw [if_pos c]
      rw [e] at h
      cases k : scan r with
      | none => rw [k] at h; cases h
      | some p =>
        rw [k] at h
        have h2 : (b :: p.1, p.2) = (d, t) := Option.some.inj h
        have h3 := scan_some r p.1 p.2 k
        cases h2
        exact ⟨by rw [h3.1]; rfl, by simp⟩
    · rw [scan_stop b r c] at h
      have h2 : ([b], r) = (d, t) := Option.some.inj h
      cases h2
      exact ⟨rfl, by simp⟩
theorem value_snoc : ∀ (l : List Int) (b : Int), value (l ++ [b]) = value l + b % 128 * 128 ^ l.length
  | [], b => by
    show b % 128 + 128 * 0 = 0 + b % 128 * 128 ^ 0
    omega
  | a :: l, b => by
    show a % 128 + 128 * value (l ++ [b]) = a % 128 + 128 * value l + b % 128 * 128 ^ (l.length + 1)
    rw [value_snoc l b, Int.pow_succ, Int.mul_add, ← Int.mul_assoc, ← Int.mul_assoc, Int.mul_comm 128 (b % 128), Int.mul_assoc (b % 128) 128, Int.mul_assoc (b % 128), Int.mul_comm 128 (128 ^ l.length)]
    omega
theorem scan_vint : ∀ (k : Nat) (n : Int) (t : List Int), n.toNat < k → 0 ≤ n → scan (vint n ++ t) = some (vint n, t) ∧ value (vint n) = n ∧ (∀ b ∈ (vint n).dropLast, 128 ≤ b) ∧ ((vint n).getLast? = some 0 → (vint n).length = 1) ∧ (∃ l, vint n = (vint n).dropLast ++ [l] ∧ 0 ≤ l ∧ l < 128)
  | 0, n, t, h, _ => by omega
  | k + 1, n, t, h, h0 => by
    by_cases c : n < 128
    · rw [vint_lt c]
      exact ⟨scan_stop n t (by omega), by show n % 128 + 128 * 0 = n; omega, by simp, by simp, n, rfl, h0, c⟩
    · obtain ⟨i1, i2, i3, i4, l, i5, i6, i7⟩ := scan_vint k (n / 128) t (by omega) (by omega)
      rw [vint_ge c]
      have ne := vint_ne (n / 128)
      have e1 : ((n % 128 + 128) :: vint (n / 128)).dropLast = (n % 128 + 128) :: (vint (n / 128)).dropLast := by
        cases q : vint (n / 128) with
        | nil => exact absurd q ne
        | cons x r => rfl
      refine ⟨?_, ?_, ?_, ?_, l, ?_, i6, i7⟩
      · show (if 128 ≤ n % 128 + 128 then (scan (vint (n / 128) ++ t)).map _ else _) = _
        rw [if_pos (by omega), i1]
        rfl
      · show (n % 128 + 128) % 128 + 128 * value (vint (n / 128)) = n
        rw [i2]
        omega
      · rw [e1]
        intro b hb
        rcases List.mem_cons.mp hb with e | e
        · omega
        · exact i3 b e
      · intro hz
        rw [List.getLast?_cons_of_ne_nil ne] at hz
        have h1 := i4 hz
        by_cases c2 : n / 128 < 128
        · rw [vint_lt c2] at hz
          have : n / 128 = 0 := by simpa using hz
          omega
        · rw [vint_ge c2] at h1
          have := vint_pos (n / 128 / 128)
          rw [List.length_cons] at h1
          omega
      · rw [e1]
        show _ = (n % 128 + 128) :: ((vint (n / 128)).dropLast ++ [l])
        rw [← i5]
theorem dec_vint (pre t : List Int) {n : Int} (h : 0 ≤ n) : dec (pre ++ (vint n ++ t)) (pre.length : Nat) = some (n, ((pre.length : Nat) : Int) + ((vint n).length : Nat)) := by
  obtain ⟨h1, h2, h3, h4, h5⟩ := scan_vint _ n t (Nat.lt_succ_self _) h
  unfold dec
  rw [if_neg (by omega), Int.toNat_natCast, List.drop_left' rfl, h1]
  show (if (vint n).getLast? = some 0 ∧ 1 < (vint n).length then none else some (value (vint n), _)) = _
  rw [if_neg (fun q => by have := h4 q.1; omega), h2]
theorem dec_cut (pre : List Int) {n : Int} (h : 0 ≤ n) : dec (pre ++ (vint n).dropLast) pre.length = none := by
  obtain ⟨h1, h2, h3, h4, h5⟩ := scan_vint _ n [] (Nat.lt_succ_self _) h
  unfold dec
  rw [if_neg (by omega), Int.toNat_natCast, List.drop_left' rfl, scan_none h3]
theorem dec_long (pre : List Int) {n l : Int} (h : 0 ≤ n) (hl : 0 ≤ l) : dec (pre ++ ((vint n).dropLast ++ [l + 128, 0])) pre.length = none := by
  obtain ⟨h1, h2, h3, h4, h5⟩ := scan_vint _ n [] (Nat.lt_succ_self _) h
  have e : scan ((vint n).dropLast ++ [l + 128, 0]) = some ((vint n).dropLast ++ [l + 128, 0], []) := by
    rw [show (vint n).dropLast ++ [l + 128, 0] = ((vint n).dropLast ++ [l + 128]) ++ [0] by simp, scan_pre _ [0] (fun b hb => by
      rcases List.mem_append.mp hb with e | e
      · exact h3 b e
      · have : b = l + 128 := by simpa using e
        omega)]
    rfl
  unfold dec
  rw [if_neg (by omega), Int.toNat_natCast, List.drop_left' rfl, e]
  show (if ((vint n).dropLast ++ [l + 128, 0]).getLast? = some 0 ∧ 1 < ((vint n).dropLast ++ [l + 128, 0]).length then none else some _) = _
  rw [if_pos ⟨by simp, by simp⟩]
theorem dec_out (ns : List Int) {i : Int} (h : (ns.length : Int) ≤ i) : dec ns i = none := by
  unfold dec
  rw [if_neg (by omega), List.drop_of_length_le (by omega)]
  rfl
theorem dec_neg (ns : List Int) {i : Int} (h : i < 0) : dec ns i = none := if_pos h
def sp__check_index (T : Env K mg) : Sp := fun vs H Q E => ∃ (a : Addr) (ns : List Int) (i : Int), vs = [.ref a, .int i] ∧ SqL K H a (ns.map V.int) ∧ (0 ≤ i → i < ns.length → Q .non H) ∧ (i < 0 ∨ (ns.length : Int) ≤ i → E (.ref T.c_BadBytes) none H)
theorem ok__check_index (T : Env K mg) : FnOk P w K mg base (L2.CX P w) 1 T.a__check_index T.d__check_index ["block", "at"] (sp__check_index T) := by
  refine T.F__check_index.okX sc__check_index (fun vs H Q E h => by obtain ⟨_, _, _, rfl, _⟩ := h; rfl) (fun cdv A outer s H vs Q E hr h => ?_)
  obtain ⟨a, ns, i, rfl, hS, h1, h2⟩ := h
  refine ⟨_, (pss_one (ps_if (PW.pt (pw_or (pt_cmpR op_lt (pv 1) pe_int (nomark _)) (pw_or1 (pt_cmpR op_ge (pv 1) (pe_callB call_len (by rfl) T.z_len (by decide +kernel) (pa_cons (pv 0) pa_nil)) (nomark _))))) (pss_one (ps_raise rfl (takes_of rfl rfl rfl rfl) (pmk_own PySem.F.excBase_ValueError T.e_BadBytes.xP T.e_BadBytes.gC T.e_BadBytes.kC (raises_own T.e_BadBytes.bP T.e_BadBytes.tP) (by exact rfl)))) pss_nil)), ?_⟩
  refine ⟨_, rfl, _, _, rfl, rfl, _, rfl, iteD (fun c => iteT (h2 (.inl c))) (fun c => ?_)⟩
  refine ⟨_, rfl, _, rfl, _, _, rfl, .inl ⟨_, hS, rfl⟩, _, _, rfl, rfl, _, rfl, iteD (fun k => ?_) (fun k => ?_)⟩
  · rw [List.length_map] at k
    exact h2 (.inr k)
  · rw [List.length_map] at k
    exact h1 (by omega) (by omega)
def sp__last_index (T : Env K mg) : Sp := fun vs H Q E => ∃ (a : Addr) (ns : List Int) (i : Int), vs = [.ref a, .int i] ∧ SqL K H a (ns.map V.int) ∧
  (∀ d t, 0 ≤ i → scan (ns.drop i.toNat) = some (d, t) → Q (.int (i + d.length - 1)) H) ∧ (i < 0 ∨ scan (ns.drop i.toNat) = none → E (.ref T.c_BadBytes) none H)
theorem ok__last_index (T : Env K mg) : FnOk P w K mg base (L2.CX P w) 2 T.a__last_index T.d__last_index ["block", "at"] (sp__last_index T) := by
  refine T.F__last_index.okX sc__last_index (fun vs H Q E h => by obtain ⟨_, _, _, rfl, _⟩ := h; rfl) (fun cdv A outer s H vs Q E hr h => ?_)
  obtain ⟨a, ns, i, rfl, hS, h1, h2⟩ := h
  have hu64 := hu64_of hr
  have G__check_index := ok__check_index (P := P) (w := w) (base := base) T
  refine ⟨_, (pss_cons (ps_expr (pe_call G__check_index (hr.mono (by decide)) rfl T.g__check_index T.F__check_index.kp T.b__check_index .nil (passes_call (takes_of rfl rfl rfl rfl) (fun _ _ _ _ x => x)) (pa_cons (pv 0) (pa_cons (pv 1) pa_nil))))
      (pss_cons (ps_while (passes_of rfl) (pt_cmpR op_ge (pe_ix ix_list (pv 0) (pv 1) (fun _ _ => rfl)) pe_int (nomark _)) (pss_cons (ps_aug (i := 1) sc__last_index.nd rfl (Or.inl rfl) pe_int ip_add)
      (pss_one (ps_expr (pe_call G__check_index (hr.mono (by decide)) rfl T.g__check_index T.F__check_index.kp T.b__check_index .nil (passes_call (takes_of rfl rfl rfl rfl) (fun _ _ _ _ x => x)) (pa_cons (pv 0) (pa_cons (pv 1) pa_nil)))))))
      (pss_one (ps_ret (pv 1))))), ?_⟩
  refine ⟨_, rfl, _, rfl, a, ns, i, rfl, hS, fun hi0 hi1 => ?_, fun c => ?_⟩
  · obtain ⟨b0, r0, e0⟩ : ∃ b r, ns.drop i.toNat = b :: r := by
      cases q : ns.drop i.toNat with
      | nil =>
        have := congrArg List.length q
        rw [List.length_drop] at this
        simp at this
        omega
      | cons b r => exact ⟨b, r, rfl⟩
    refine ⟨fun m σ H' => ∃ (pre r : List Int) (b : Int), m = r.length ∧ σ = [some (.ref a), some (.int (i + pre.length))] ∧ H' = H ∧ ns.drop i.toNat = pre ++ b :: r ∧ ∀ x ∈ pre, 128 ≤ x, ⟨_, [], r0, b0, rfl, (by show _ = [some (V.ref a), some (V.int (i + 0))]; rw [Int.add_zero]; rfl), rfl, e0, by simp⟩, ?_⟩
    rintro m σ H' ⟨pre, r, b, rfl, rfl, rfl, he, hp⟩
    have hix : ns[i.toNat + pre.length]? = some b := by
      rw [← List.getElem?_drop, he, List.getElem?_append_right (Nat.le_refl _), Nat.sub_self]
      rfl
    have hlen : ns.length = i.toNat + pre.length + 1 + r.length := by
      have := congrArg List.length he
      rw [List.length_drop] at this
      simp at this
      omega
    refine ⟨_, rfl, _, rfl, a, _, _, _, rfl, rfl, hS, at_of (j := i.toNat + pre.length) (v := .int b) (by omega) (by rw [List.getElem?_map, hix]; rfl), _, _, rfl, rfl, _, rfl, iteD (fun c => ?_) (fun c => ?_)⟩
    · refine ⟨fun σ' H' => _, fun _ _ h => h, ?_⟩
      refine ⟨_, rfl, _, _, rfl, rfl, ?_⟩
      refine ⟨_, rfl, _, rfl, a, ns, i + pre.length + 1, rfl, hS, fun _ hj => ?_, fun hj => ?_⟩
      · obtain ⟨b1, r1, rfl⟩ : ∃ b1 r1, r = b1 :: r1 := by
          cases r with
          | nil => simp at hlen; omega
          | cons b1 r1 => exact ⟨b1, r1, rfl⟩
        refine ⟨r1.length, by simp, pre ++ [b], r1, b1, rfl, ?_, rfl, by rw [he]; simp, fun x hx => ?_⟩
        · rw [List.length_append]
          show [some (V.ref a), some (V.int (i + pre.length + 1))] = [some (V.ref a), some (V.int (i + ((pre.length + 1 : Nat) : Int)))]
          rw [show i + (pre.length : Int) + 1 = i + ((pre.length + 1 : Nat) : Int) by omega]
        · rcases List.mem_append.mp hx with e | e
          · exact hp x e
          · have : x = b := by simpa using e
            omega
      · have er : r = [] := by
          cases r with
          | nil => rfl
          | cons b1 r1 => simp at hlen; omega
        subst er
        refine h2 (.inr ?_)
        rw [he]
        refine scan_none fun x hx => ?_
        rcases List.mem_append.mp hx with e | e
        · exact hp x e
        · have : x = b := by simpa using e
          omega
    · have hs : scan (ns.drop i.toNat) = some (pre ++ [b], r) := by
        rw [he, scan_pre pre _ hp, scan_stop b r c]
        rfl
      have := h1 _ _ hi0 hs
      rw [List.length_append, show i + ((pre.length + [b].length : Nat) : Int) - 1 = i + pre.length by simp; omega] at this
      exact ⟨_, rfl, this⟩
  · refine h2 ?_
    rcases c with c | c
    · exact .inl c
    · refine .inr ?_
      rw [List.drop_of_length_le (by omega)]
      rfl
def sp_decode_number (T : Env K mg) : Sp := fun vs H Q E => ∃ (a : Addr) (ns : List Int) (i : Int), vs = [.ref a, .int i] ∧ SqL K H a (ns.map V.int) ∧
  (∀ v e, dec ns i = some (v, e) → ∀ p H', Same H H' → H p = none → H' p = some (.tup [.int v, .int e]) → Q (.ref p) H') ∧ (dec ns i = none → ∀ H', Same H H' → E (.ref T.c_BadBytes) none H')
theorem ok_decode_number (T : Env K mg) : FnOk P w K mg base (L2.CX P w) 3 T.a_decode_number T.d_decode_number ["block", "at"] (sp_decode_number T) := by
  refine T.F_decode_number.ok sc_decode_number (fun vs H Q E h => by obtain ⟨_, _, _, rfl, _⟩ := h; rfl) (fun cdv A outer s H vs Q E hr h => ?_)
  obtain ⟨a, ns, i, rfl, hS, h1, h2⟩ := h
  have hu64 := hu64_of hr
  have G__last_index := ok__last_index (P := P) (w := w) (base := base) T
  refine ⟨_, (pss_cons (ps_set (i := 2) sc_decode_number.nd rfl (Or.inl rfl) (pe_call G__last_index (hr.mono (by decide)) rfl T.g__last_index T.F__last_index.kp T.b__last_index .nil (passes_call (takes_of rfl rfl rfl rfl) (fun _ _ _ _ x => x)) (pa_cons (pv 0) (pa_cons (pv 1) pa_nil))))
      (pss_cons (ps_if (PW.pt (pw_and (pt_cmpR op_eq (pe_ix ix_list (pv 0) (pv 2) (fun _ _ => rfl)) pe_int (nomark _)) (pw_and1 (pt_cmpR op_gt (pv 2) (pv 1) (nomark _))))) (pss_one (ps_raise rfl (takes_of rfl rfl rfl rfl) (pmk_own PySem.F.excBase_ValueError T.e_BadBytes.xP T.e_BadBytes.gC T.e_BadBytes.kC (raises_own T.e_BadBytes.bP T.e_BadBytes.tP) (by exact rfl)))) pss_nil)
      (pss_cons (ps_set (i := 3) sc_decode_number.nd rfl (Or.inl rfl) pe_int)
      (pss_cons (ps_set (i := 4) sc_decode_number.nd rfl (Or.inl rfl) pe_int)
      (pss_cons (ps_for (passes_of rfl) rfl (pi_list (pe_slice sl_list (pv 0) (po_some (pv 1)) (po_some (pe_op op_add (pv 2) pe_int)))) (pg_name (i := 5) sc_decode_number.nd rfl (Or.inl rfl)) (pss_cons (ps_set (i := 3) sc_decode_number.nd rfl (Or.inl rfl) (pe_op op_add (pv 3) (pe_op op_mul (pe_op op_mod (pv 5) pe_int) (pv 4))))
      (pss_one (ps_set (i := 4) sc_decode_number.nd rfl (Or.inl rfl) (pe_op op_mul (pv 4) pe_int)))))
      (pss_one (ps_ret (pe_tup (pa_cons (pv 3) (pa_cons (pe_op op_add (pv 2) pe_int) pa_nil)))))))))), ?_⟩
  refine ⟨_, rfl, _, rfl, a, ns, i, rfl, hS, fun d t hi hs => ?_, fun c => ?_⟩
  · obtain ⟨he, hne⟩ := scan_some _ _ _ hs
    obtain ⟨d0, l, rfl⟩ : ∃ d0 l, d = d0 ++ [l] := ⟨d.dropLast, d.getLast hne, (List.dropLast_concat_getLast hne).symm⟩
    have hix : ns[i.toNat + d0.length]? = some l := by
      rw [← List.getElem?_drop, he, List.append_assoc, List.getElem?_append_right (Nat.le_refl _), Nat.sub_self]
      rfl
    have hlen : d0.length + 1 + t.length = ns.length - i.toNat := by
      have := congrArg List.length he
      rw [List.length_drop] at this
      simp at this
      omega
    have ed : dec ns i = if (d0 ++ [l]).getLast? = some 0 ∧ 1 < (d0 ++ [l]).length then none else some (value (d0 ++ [l]), i + (d0 ++ [l]).length) := by
      unfold dec
      rw [if_neg (by omega), hs]
    rw [List.length_append, show i + ((d0.length + [l].length : Nat) : Int) - 1 = i + d0.length by simp; omega]
    refine ⟨_, rfl, _, rfl, a, _, _, _, rfl, rfl, hS, at_of (j := i.toNat + d0.length) (v := .int l) (by omega) (by rw [List.getElem?_map, hix]; rfl), rfl, _, rfl, ?_⟩
    by_cases hg : l = 0 ∧ 0 < d0.length
    · refine ifT (decide_eq_true (by rw [hg.1])) ⟨_, rfl, _, rfl, _, _, rfl, rfl, _, rfl, ifT (decide_eq_true (by omega)) (h2 ?_ _ (Same.refl H))⟩
      rw [ed, if_pos ⟨by simp [hg.1], by simp; omega⟩]
    · suffices rest : _ by
        refine iteD (fun c => ?_) (fun c => ifF rfl rest)
        have c : l = 0 := V.int.inj c
        exact ⟨_, rfl, _, rfl, _, _, rfl, rfl, _, rfl, ifF (decide_eq_false (by omega)) rest⟩
      have ev : dec ns i = some (value (d0 ++ [l]), i + (d0.length + 1 : Nat)) := by
        rw [ed, if_neg (fun q => hg ⟨by simpa using q.1, by have := q.2; simp at this; omega⟩)]
        simp
      refine ⟨_, rfl, _, rfl, _, rfl, _, rfl, _, _, rfl, rfl, _, rfl, a, _, rfl, hS, fun p np => ?_⟩
      have ec : cutV (ns.map V.int) (some i) (some (i + d0.length + 1)) = (d0 ++ [l]).map V.int := by
        rw [show i = ((i.toNat : Nat) : Int) by omega, show ((i.toNat : Nat) : Int) + d0.length + 1 = ((i.toNat + d0.length + 1 : Nat) : Int) by omega, cut_fromto, ← List.map_drop, he, ← List.map_take, List.take_left' (by simp; omega)]
      rw [ec]
      refine ⟨p, rfl, ⟨_, SqL.of upd_same⟩, for_list (K := K) (a := p) (xs := (d0 ++ [l]).map V.int) (fun k σ H' => ∃ v5, σ = [some (.ref a), some (.int i), some (.int (i + d0.length)), some (.int (value ((d0 ++ [l]).take k))), some (.int (128 ^ k)), v5] ∧ k ≤ (d0 ++ [l]).length ∧ H' = upd H p (.lst ((d0 ++ [l]).map V.int))) ⟨none, rfl, Nat.zero_le _, rfl⟩ (fun k σ H' _ ⟨_, _, _, e⟩ => by rw [e]; exact SqL.of upd_same) ?_ ?_⟩
      · rintro k y σ H' hk ⟨v5, rfl, hkl, rfl⟩
        obtain ⟨n, hn, rfl⟩ := mem_int hk
        have hkl2 : k < (d0 ++ [l]).length := (List.getElem?_eq_some_iff.mp hn).1
        refine ⟨_, rfl, _, rfl, _, _, rfl, rfl, by show (0 : Int) < _; decide, _, rfl, _, _, rfl, rfl, .inl ⟨by omega, by omega⟩, _, _, rfl, rfl, ?_⟩
        refine ⟨_, rfl, _, _, rfl, rfl, .inr ⟨by decide, by decide⟩, ?_⟩
        refine ⟨some (.int n), ?_, hkl2, rfl⟩
        rw [take_succ hn, value_snoc, List.length_take, Nat.min_eq_left (by omega), Int.pow_succ]
        rfl
      · rintro σ H' ⟨v5, rfl, _, rfl⟩
        rw [List.length_map, List.take_length]
        refine ⟨_, rfl, _, rfl, _, _, rfl, rfl, (by show 2 ≤ sizeLine; decide), fun q nq => ?_⟩
        refine h1 _ _ ev q _ ((same_new np).trans (same_new nq)) ((same_new np).free nq) ?_
        rw [upd_same]
        show some (HO.tup [V.int (value (d0 ++ [l])), V.int (i + d0.length + 1)]) = _
        rw [show i + (d0.length : Int) + 1 = i + (d0.length + 1 : Nat) by omega]
  · refine h2 ?_ _ (Same.refl H)
    rcases c with c | c
    · exact dec_neg ns c
    · unfold dec
      split
      · rfl
      · rw [c]
/-! pairs of ints as data -/
def dPair (a b : Int) : PyData := .tuple [.int a, .int b]
theorem dp_pair {H : Hp} {p : Addr} {a b : Int} (h : SqT K H p [.int a, .int b]) : Dp K H (.ref p) (dPair a b) := .tup h (.cons (.int _) (.cons (.int _) .nil))
theorem shaped_pair (a b : Int) : SeqAt.shaped (dPair a b) = true := by
  unfold SeqAt.shaped dPair
  simp [PyData.canLay0, PyData.canLayAll0, PyData.depth, PyData.depthAll]
theorem eqv_pair (a b c d : Int) : PyData.eqv (dPair a b) (dPair c d) = decide (a = c ∧ b = d) := by
  show ((a == c) && ((b == d) && true)) = _
  by_cases h : a = c <;> by_cases h2 : b = d <;> simp [h, h2]

--PART /work/steering/wip/parts/frames.lean
/-! ### frames -/
def frame (B : List Int) : List Int := vint (B.length : Nat) ++ sealed B
instance (ns : List Int) : Decidable (openOk ns) := by unfold openOk; infer_instance
inductive FR where
  | ok (b : List Int) (e : Int) | cut | torn
def decF (ns : List Int) (i : Int) : FR :=
  match dec ns i with
  | none => .cut
  | some (n, s) => if s + n + 3 > (ns.length : Nat) then .cut else
    if openOk ((ns.drop s.toNat).take (s + n + 3 - s).toNat) then .ok (((ns.drop s.toNat).take (s + n + 3 - s).toNat).take (((ns.drop s.toNat).take (s + n + 3 - s).toNat).length - 3)) (s + n + 3) else .torn
theorem value_nn : ∀ d : List Int, 0 ≤ value d
  | [] => Int.le_refl _
  | b :: r => by
    have := value_nn r
    show 0 ≤ b % 128 + 128 * value r
    omega
theorem dec_some {ns : List Int} {i v s : Int} (h : dec ns i = some (v, s)) : 0 ≤ v ∧ 0 ≤ i ∧ i < s ∧ s ≤ (ns.length : Nat) := by
  unfold dec at h
  split at h
  · cases h
  · rename_i h0
    split at h
    · cases h
    · rename_i d t hs
      split at h
      · cases h
      · cases h
        obtain ⟨he, hne⟩ := scan_some _ _ _ hs
        have hl := congrArg List.length he
        rw [List.length_drop, List.length_append] at hl
        have : 1 ≤ d.length := by
          cases d with
          | nil => exact absurd rfl hne
          | cons _ _ => simp
        exact ⟨value_nn d, by omega, by omega, by omega⟩
/-- the frames from i on, at most k -/
def framesGo (ns : List Int) : Nat → Int → List (List Int) × Int
  | 0, i => ([], i)
  | k + 1, i => if i < (ns.length : Nat) then (match decF ns i with
    | .ok b e => (b :: (framesGo ns k e).1, (framesGo ns k e).2)
    | _ => ([], i)) else ([], i)
def decFs (ns : List Int) : List (List Int) × Int := framesGo ns (ns.length + 1) 0
theorem decF_ok {ns : List Int} {i e : Int} {b : List Int} (h : decF ns i = .ok b e) : 0 ≤ i ∧ i < e ∧ e ≤ (ns.length : Nat) ∧ b.length ≤ ns.length := by
  unfold decF at h
  split at h
  · cases h
  · rename_i n s hd
    have := dec_some hd
    split at h
    · cases h
    · split at h
      · cases h
        refine ⟨by omega, by omega, by omega, ?_⟩
        rw [List.length_take, List.length_take, List.length_drop]
        omega
      · cases h
theorem framesGo_end {ns : List Int} {k : Nat} {i : Int} (h : ¬ i < (ns.length : Nat) ∨ ∀ b e, decF ns i ≠ .ok b e) : framesGo ns k i = ([], i) := by
  cases k with
  | zero => rfl
  | succ k =>
    show (if i < (ns.length : Nat) then _ else _) = _
    split
    · rename_i hi
      rcases h with h | h
      · exact absurd hi h
      · cases e : decF ns i with
        | ok b e2 => exact absurd e (h b e2)
        | cut => rfl
        | torn => rfl
    · rfl
/-! lists of blocks -/
def dBlks (bs : List (List Int)) : PyData := .list (bs.map dInts)
theorem canLay_blks : ∀ bs : List (List Int), PyData.canLayAll0 (bs.map dInts) = true
  | [] => rfl
  | b :: r => by
    show (PyData.canLay0 (dInts b) && PyData.canLayAll0 (r.map dInts)) = true
    rw [canLay_blks r]
    have := (Bool.and_eq_true_iff.mp (shaped_dInts b)).1
    rw [this]
    rfl
theorem depth_dInts1 (b : List Int) : PyData.depth (dInts b) = 1 := by
  unfold dInts PyData.depth
  rw [depth_dints]
theorem depth_blks : ∀ bs : List (List Int), PyData.depthAll (bs.map dInts) ≤ 1
  | [] => by
    show PyData.depthAll [] ≤ 1
    rw [PyData.depthAll]
    omega
  | b :: r => by
    show PyData.depthAll (dInts b :: r.map dInts) ≤ 1
    have := depth_blks r
    have e := depth_dInts1 b
    rw [PyData.depthAll]
    omega
theorem shaped_dBlks (bs : List (List Int)) : SeqAt.shaped (dBlks bs) = true := by
  unfold SeqAt.shaped dBlks
  rw [show PyData.canLay0 (.list (bs.map dInts)) = true from by unfold PyData.canLay0; exact canLay_blks bs]
  have h := depth_blks bs
  have : PyData.depth (.list (bs.map dInts)) ≤ 64 := by
    unfold PyData.depth
    omega
  simp [this]
theorem eqv_blks : ∀ bs cs : List (List Int), PyData.eqvAll (bs.map dInts) (cs.map dInts) = decide (bs = cs)
  | [], [] => rfl
  | [], _ :: _ => rfl
  | _ :: _, [] => rfl
  | b :: r, c :: t => by
    show (PyData.eqv (dInts b) (dInts c) && PyData.eqvAll (r.map dInts) (t.map dInts)) = _
    rw [eqv_blks r t, eqv_dInts]
    by_cases h : b = c <;> by_cases h2 : r = t <;> simp [h, h2]
theorem eqv_dBlks (bs cs : List (List Int)) : PyData.eqv (dBlks bs) (dBlks cs) = decide (bs = cs) := eqv_blks bs cs
/-- p holds a list of lists of ints, none of them p itself -/
structure Blk (H : Hp) (p : Addr) (as : List Addr) (bs : List (List Int)) : Prop where
  at_ : H p = some (.lst (as.map V.ref))
  len : as.length = bs.length
  each : ∀ (j : Nat) (a : Addr), as[j]? = some a → a ≠ p ∧ ∃ b, bs[j]? = some b ∧ Li H a b
theorem Blk.same {H H' : Hp} {p : Addr} {as : List Addr} {bs : List (List Int)} (h : Blk H p as bs) (s : Same H H') : Blk H' p as bs :=
  ⟨s _ _ h.at_, h.len, fun j a hj => by
    obtain ⟨h1, b, h2, h3⟩ := h.each j a hj
    exact ⟨h1, b, h2, s _ _ h3⟩⟩
theorem Blk.nil {H : Hp} {p : Addr} : Blk (upd H p (.lst [])) p [] [] := ⟨upd_same, rfl, fun j a hj => by simp at hj⟩
theorem Blk.push {H : Hp} {p a : Addr} {as : List Addr} {bs : List (List Int)} {b : List Int} (h : Blk H p as bs) (ha : Li H a b) (hne : a ≠ p) : Blk (upd H p (.lst (as.map V.ref ++ [V.ref a]))) p (as ++ [a]) (bs ++ [b]) := by
  refine ⟨by rw [upd_same, List.map_append]; rfl, by rw [List.length_append, List.length_append, h.len]; rfl, fun j c hj => ?_⟩
  by_cases k : j < as.length
  · rw [List.getElem?_append_left k] at hj
    obtain ⟨h1, b', h2, h3⟩ := h.each j c hj
    exact ⟨h1, b', by rw [List.getElem?_append_left (by rw [← h.len]; exact k)]; exact h2, by show upd _ _ _ _ = _; rw [upd_ne h1]; exact h3⟩
  · have hj2 : j = as.length := by
      have := (List.getElem?_eq_some_iff.mp hj).1
      simp at this
      omega
    subst hj2
    rw [List.getElem?_append_right (Nat.le_refl _), Nat.sub_self] at hj
    have ec : a = c := Option.some.inj hj
    subst ec
    exact ⟨hne, b, by rw [h.len, List.getElem?_append_right (Nat.le_refl _), Nat.sub_self]; rfl, by show upd _ _ _ _ = _; rw [upd_ne hne]; exact ha⟩
theorem dpAll_refs {K : PySem.W.Frag} {H : Hp} : ∀ (as : List Addr) (bs : List (List Int)), as.length = bs.length → (∀ (j : Nat) (a : Addr), as[j]? = some a → ∃ b, bs[j]? = some b ∧ Li H a b) → DpAll K H (as.map V.ref) (bs.map dInts)
  | [], [], _, _ => .nil
  | [], _ :: _, h, _ => by simp at h
  | _ :: _, [], h, _ => by simp at h
  | a :: as, b :: bs, h, e => by
    obtain ⟨b', h1, h2⟩ := e 0 a rfl
    have : b = b' := Option.some.inj h1
    subst this
    exact .cons (dp_ints (SqL.of h2)) (dpAll_refs as bs (by simpa using h) fun j c hj => e (j + 1) c hj)
theorem Blk.dp {K : PySem.W.Frag} {H : Hp} {p : Addr} {as : List Addr} {bs : List (List Int)} (h : Blk H p as bs) : Dp K H (.ref p) (dBlks bs) :=
  .lst (SqL.of h.at_) (dpAll_refs as bs h.len fun j a hj => (h.each j a hj).2)
def sp_encode_frame (T : Env K mg) : Sp := fun vs H Q E => ∃ (a : Addr) (B : List Int), vs = [.ref a] ∧ Li H a B ∧ B.length ≤ 100000 ∧ ∀ p H', Same H H' → H p = none → Li H' p (frame B) → Q (.ref p) H'
theorem len_NB {n : Nat} (h : n ≤ 1000000) : ((n : Nat) : Int) < NB := Int.lt_of_le_of_lt (show ((n : Nat) : Int) ≤ 1000000 by omega) (by decide +kernel)
theorem ok_encode_frame (T : Env K mg) : FnOk P w K mg base (L2.CX P w) 4 T.a_encode_frame T.d_encode_frame ["block"] (sp_encode_frame T) := by
  refine T.F_encode_frame.okX sc_encode_frame (fun vs H Q E h => by obtain ⟨_, _, rfl, _⟩ := h; rfl) (fun cdv A outer s H vs Q E hr h => ?_)
  obtain ⟨a, B, rfl, hL, hlen, h1⟩ := h
  have hu64 := hu64_of hr
  have G_encode_number := ok_encode_number (P := P) (w := w) (base := base) T
  have G_seal := ok_seal (P := P) (w := w) (base := base) T
  refine ⟨_, (pss_one (ps_ret (pe_op op_cat (pe_call G_encode_number (hr.mono (by decide)) rfl T.g_encode_number T.F_encode_number.kp T.b_encode_number .nil passL (pa_cons (pe_callB call_len (by rfl) T.z_len (by decide +kernel) (pa_cons (pv 0) pa_nil)) pa_nil)) (pe_call G_seal (hr.mono (by decide)) rfl T.g_seal T.F_seal.kp T.b_seal .nil passL (pa_cons (pv 0) pa_nil))))), ?_⟩
  refine ⟨_, rfl, _, _, rfl, .inl ⟨_, SqL.of hL, rfl⟩, _, rfl, ?_, fun _ p H1 s1 np hp => ?_, fun c => by omega⟩
  · rw [List.length_map]
    exact len_NB (by omega)
  rw [List.length_map] at hp
  have hv := vint_len100 (len_NB (n := B.length) (by omega))
  refine ⟨_, rfl, a, B, rfl, s1 _ _ hL, by omega, fun q H2 s2 nq hq => ⟨p, q, _, _, rfl, rfl, s2 _ _ hp, hq, szle (by rw [List.length_map, List.length_map, sealed_len]; omega), fun r nr => ?_⟩⟩
  exact h1 r _ ((s1.trans s2).trans (same_new nr)) ((s1.trans s2).free nr) (by show upd _ _ _ _ = _; rw [upd_same, ← List.map_append]; rfl)
def sp_decode_frame (T : Env K mg) : Sp := fun vs H Q E => ∃ (a : Addr) (ns : List Int) (i : Int), vs = [.ref a, .int i] ∧ Li H a ns ∧ ns.length ≤ 1000000 ∧
  (∀ b e, decF ns i = .ok b e → ∀ p q H', Same H H' → H p = none → H q = none → H' p = some (.tup [.ref q, .int e]) → Li H' q b → Q (.ref p) H') ∧
  (decF ns i = .cut → ∀ H', Same H H' → E (.ref T.c_BadBytes) none H') ∧ (decF ns i = .torn → ∀ H', Same H H' → E (.ref T.c_BadSeal) none H')
theorem ok_decode_frame (T : Env K mg) : FnOk P w K mg base (L2.CX P w) 4 T.a_decode_frame T.d_decode_frame ["block", "at"] (sp_decode_frame T) := by
  refine T.F_decode_frame.ok sc_decode_frame (fun vs H Q E h => by obtain ⟨_, _, _, rfl, _⟩ := h; rfl) (fun cdv A outer s H vs Q E hr h => ?_)
  obtain ⟨a, ns, i, rfl, hL, hlen, h1, h2, h3⟩ := h
  have hu64 := hu64_of hr
  have G_decode_number := ok_decode_number (P := P) (w := w) (base := base) T
  have G_open_seal := ok_open_seal (P := P) (w := w) (base := base) T
  refine ⟨_, (pss_cons (ps_asg (pe_call G_decode_number (hr.mono (by decide)) rfl T.g_decode_number T.F_decode_number.kp T.b2_decode_number T.v2_decode_number (passes_call (takes_of rfl rfl rfl rfl) (fun _ _ _ _ x => x)) (pa_cons (pv 0) (pa_cons (pv 1) pa_nil))) (pg_tup rfl (pgs_cons (pg_name (i := 2) sc_decode_frame.nd rfl (Or.inl rfl)) (pgs_cons (pg_name (i := 3) sc_decode_frame.nd rfl (Or.inl rfl)) pgs_nil))))
      (pss_cons (ps_set (i := 4) sc_decode_frame.nd rfl (Or.inl rfl) (pe_op op_add (pe_op op_add (pv 3) (pv 2)) pe_int))
      (pss_cons (ps_if (pt_cmpR op_gt (pv 4) (pe_callB call_len (by rfl) T.z_len (by decide +kernel) (pa_cons (pv 0) pa_nil)) (nomark _)) (pss_one (ps_raise rfl (takes_of rfl rfl rfl rfl) (pmk_own PySem.F.excBase_ValueError T.e_BadBytes.xP T.e_BadBytes.gC T.e_BadBytes.kC (raises_own T.e_BadBytes.bP T.e_BadBytes.tP) (by exact rfl)))) pss_nil)
      (pss_one (ps_ret (pe_tup (pa_cons (pe_call G_open_seal (hr.mono (by decide)) rfl T.g_open_seal T.F_open_seal.kp T.b_open_seal .nil (passes_call (takes_of rfl rfl rfl rfl) (fun _ _ _ _ x => x)) (pa_cons (pe_slice sl_list (pv 0) (po_some (pv 3)) (po_some (pv 4))) pa_nil)) (pa_cons (pv 4) pa_nil)))))))), ?_⟩
  refine ⟨_, rfl, _, rfl, a, ns, i, rfl, SqL.of hL, fun n st c p H1 s1 np hp => ?_, fun c H1 s1 => h2 (by unfold decF; rw [c]) H1 s1⟩
  obtain ⟨n0, i0, i1, s0⟩ := dec_some c
  refine ⟨p, _, rfl, SqT.of hp, rfl, _, _, rfl, _, _, rfl, rfl, ?_⟩
  refine ⟨_, rfl, _, rfl, _, _, rfl, rfl, _, _, rfl, rfl, ?_⟩
  refine ⟨_, rfl, _, rfl, _, _, rfl, .inl ⟨_, SqL.of (s1 _ _ hL), rfl⟩, _, _, rfl, rfl, _, rfl, ?_⟩
  rw [List.length_map]
  have ed : decF ns i = if st + n + 3 > (ns.length : Nat) then .cut else if openOk ((ns.drop st.toNat).take (st + n + 3 - st).toNat) then .ok (((ns.drop st.toNat).take (st + n + 3 - st).toNat).take (((ns.drop st.toNat).take (st + n + 3 - st).toNat).length - 3)) (st + n + 3) else .torn := by unfold decF; rw [c]
  refine iteD (fun k => h2 (by rw [ed, if_pos k]) H1 s1) (fun k => ?_)
  have k : ¬ st + n + 3 > (ns.length : Nat) := k
  rw [if_neg k] at ed
  have ec : cutV (ns.map V.int) (some st) (some (st + n + 3)) = ((ns.drop st.toNat).take (st + n + 3 - st).toNat).map V.int := by
    rw [show st = ((st.toNat : Nat) : Int) by omega, show ((st.toNat : Nat) : Int) + n + 3 = ((st.toNat + n.toNat + 3 : Nat) : Int) by omega, cut_fromto, List.map_take, List.map_drop]
    congr 2
    omega
  refine ⟨_, rfl, _, rfl, _, rfl, _, rfl, _, rfl, a, _, rfl, SqL.of (s1 _ _ hL), fun q nq => ?_⟩
  have hq : Li (upd H1 q (.lst (cutV (ns.map V.int) (some st) (some (st + n + 3))))) q ((ns.drop st.toNat).take (st + n + 3 - st).toNat) := by rw [ec]; exact upd_same
  have sq := same_new (o := .lst (cutV (ns.map V.int) (some st) (some (st + n + 3)))) nq
  have bl : ((ns.drop st.toNat).take (st + n + 3 - st).toNat).length ≤ ns.length ∧ 3 ≤ ((ns.drop st.toNat).take (st + n + 3 - st).toNat).length := by
    rw [List.length_take, List.length_drop]
    omega
  refine ⟨q, _, rfl, hq, by omega, fun cc => by omega, fun _ ho r H2 s2 nr hr2 => ?_, fun _ ho H2 s2 => ?_⟩
  · rw [if_pos ho] at ed
    refine ⟨_, rfl, (by show 2 ≤ sizeLine; decide), fun t nt => ?_⟩
    have sA := ((s1.trans sq).trans s2)
    exact h1 _ _ ed t r _ (sA.trans (same_new nt)) (sA.free nt) ((s1.trans sq).free nr) upd_same (same_new nt _ _ hr2)
  · rw [if_neg ho] at ed
    exact h3 ed _ ((s1.trans sq).trans s2)
def sp_decode_frames (T : Env K mg) : Sp := fun vs H Q E => ∃ (a : Addr) (ns : List Int), vs = [.ref a] ∧ Li H a ns ∧ ns.length ≤ 1000000 ∧
  ∀ t p as H', Same H H' → H t = none → H p = none → H' t = some (.tup [.ref p, .int (decFs ns).2]) → Blk H' p as (decFs ns).1 → Q (.ref t) H'
theorem ok_decode_frames (T : Env K mg) : FnOk P w K mg base (L2.CX P w) 5 T.a_decode_frames T.d_decode_frames ["block"] (sp_decode_frames T) := by
  refine T.F_decode_frames.okX sc_decode_frames (fun vs H Q E h => by obtain ⟨_, _, rfl, _⟩ := h; rfl) (fun cdv A outer s H vs Q E hr h => ?_)
  obtain ⟨a, ns, rfl, hL, hlen, h1⟩ := h
  have hu64 := hu64_of hr
  have G_decode_frame := ok_decode_frame (P := P) (w := w) (base := base) T
  refine ⟨_, (pss_cons (ps_set (i := 1) sc_decode_frames.nd rfl (Or.inl rfl) (pe_lst pa_nil))
      (pss_cons (ps_set (i := 2) sc_decode_frames.nd rfl (Or.inl rfl) pe_int)
      (pss_cons (ps_while (passes_of rfl) (pt_cmpR op_lt (pv 2) (pe_callB call_len (by rfl) T.z_len (by decide +kernel) (pa_cons (pv 0) pa_nil)) (nomark _)) (pss_cons (ps_try_only rfl rfl ⟨rfl, by decide, .inl T.e_BadBytes.gC⟩ takes0 (fun W pn xe tk po => (pss_one (ps_asg (pe_callSD G_decode_frame (hr.mono (by decide)) rfl T.g_decode_frame T.F_decode_frame.kp T.b2_decode_frame T.v2_decode_frame (fun σ => passAt tk σ) (pa_cons (pv 0) (pa_cons (pv 2) pa_nil))) (show PG _ _ (gTup K 2 (gCons (gName 3) (gCons (gName 2) gNil))) from (pg_tup rfl (pgs_cons (pg_name (i := 3) sc_decode_frames.nd rfl (Or.inl rfl)) (pgs_cons (pg_name (i := 2) sc_decode_frames.nd rfl (Or.inl rfl)) pgs_nil))))))) (fun a oe cls d pn hz hf => (pss_one ps_break)))
      (pss_one (ps_expr (pe_bm PySem.F.plainAttrs_list PySem.F.slot_list_append PySem.F.type_list_append mt_append (pv 1) (pa_cons (pv 3) pa_nil))))))
      (pss_one (ps_ret (pe_tup (pa_cons (pv 1) (pa_cons (pv 2) pa_nil)))))))), ?_⟩
  refine ⟨Nat.zero_le _, fun p np => ?_⟩
  suffices fin : ∀ (i : Int) (as : List Addr) (v3 : Option V) (H' : Hp), Same H H' → Blk H' p as (decFs ns).1 → i = (decFs ns).2 → _ by
    refine ⟨fun m σ H' => ∃ (i : Int) (done : List (List Int)) (as : List Addr) (v3 : Option V), σ = [some (.ref a), some (.ref p), some (.int i), v3] ∧ Same H H' ∧ Blk H' p as done ∧ decFs ns = (done ++ (framesGo ns m i).1, (framesGo ns m i).2) ∧ (ns.length : Int) - i < m ∧ (done.length : Int) ≤ i, ⟨ns.length + 1, 0, [], [], none, rfl, same_new np, Blk.nil, rfl, by omega, by simp⟩, ?_⟩
    rintro m σ H' ⟨i, done, as, v3, rfl, sA, hB, he, hm, hdl⟩
    refine ⟨_, rfl, _, rfl, _, _, rfl, .inl ⟨_, SqL.of (sA _ _ hL), rfl⟩, _, _, rfl, rfl, _, rfl, ?_⟩
    rw [List.length_map]
    refine iteD (fun k => ?_) (fun k => ?_)
    · obtain ⟨m, rfl⟩ : ∃ m', m = m' + 1 := ⟨m - 1, by omega⟩
      have eg : framesGo ns (m + 1) i = (match decF ns i with | .ok b e => (b :: (framesGo ns m e).1, (framesGo ns m e).2) | _ => ([], i)) := by
        show (if i < (ns.length : Nat) then _ else _) = _
        rw [if_pos k]
      refine ⟨fun σ' H' => _, fun _ _ h => h, ?_⟩
      have stop : (∀ b e, decF ns i ≠ .ok b e) → ∀ (H2 : Hp), Same H' H2 → _ := fun hno H2 s2 => fin i as v3 H2 (sA.trans s2) (by
        rw [he, framesGo_end (.inr hno), List.append_nil]
        exact hB.same s2) (by rw [he, framesGo_end (.inr hno)])
      refine ⟨_, rfl, _, rfl, a, ns, i, rfl, sA _ _ hL, hlen, fun b e c t q H2 s2 nt nq ht hq => ?_, fun c H2 s2 => ?_, fun c H2 s2 => ?_⟩
      · have hk := decF_ok c
        rw [c] at eg
        refine ⟨t, _, rfl, SqT.of ht, rfl, _, _, rfl, _, _, rfl, rfl, ?_⟩
        have hB2 := hB.same s2
        have nqp : q ≠ p := fun e => by
          rw [e, hB.at_] at nq
          cases nq
        refine ⟨_, rfl, .inl ⟨rfl, _, SqL.of hB2.at_⟩, _, rfl, p, _, _, rfl, rfl, hB2.at_, szl (by rw [List.length_map, hB.len]; omega), ?_⟩
        refine ⟨m, by omega, e, done ++ [b], as ++ [q], some (.ref q), rfl, same_mut (sA.trans s2) np, hB2.push hq nqp, ?_, by omega, by rw [List.length_append]; show ((_ + 1 : Nat) : Int) ≤ e; omega⟩
        rw [he, eg, List.append_assoc]
        rfl
      · exact ⟨true, T.u_BadBytes_BadBytes, fun _ x _ => stop (fun b e q => by rw [c] at q; cases q) H2 s2, fun q => Bool.noConfusion q⟩
      · exact ⟨true, T.u_BadSeal_BadBytes, fun _ x _ => stop (fun b e q => by rw [c] at q; cases q) H2 s2, fun q => Bool.noConfusion q⟩
    · have eg := framesGo_end (ns := ns) (k := m) (i := i) (.inl k)
      exact fin i as v3 H' sA (by rw [he, eg, List.append_nil]; exact hB) (by rw [he, eg])
  intro i as v3 H' sA hB ei
  refine ⟨_, rfl, _, rfl, (by show 2 ≤ sizeLine; decide), fun t nt => ?_⟩
  exact h1 t p as _ (sA.trans (same_new nt)) (sA.free nt) np (by rw [upd_same, ei]) (hB.same (same_new nt))

--PART /work/steering/wip/parts/disks.lean
/-! ### disks -/
/-- several ways to one rest -/
theorem via {G : Prop} {R : Hp → Prop} (A : Hp → Prop) (k : (∀ H1, A H1 → R H1) → G) (fin : ∀ H1, A H1 → R H1) : G := k fin
theorem via0 {G R : Prop} (A : Prop) (k : (A → R) → G) (fin : A → R) : G := k fin
theorem ixN_neg {n k : Nat} (h : 0 < k) (h2 : k ≤ n) : ixN n (-(k : Int)) = some (n - k) := by
  unfold ixN
  rw [if_neg (by omega), if_pos (by omega)]
  congr 1
  omega
theorem kept_loose : ¬ (("_kept" : Str) = "_loose") := by decide +kernel
def dkf (k l : Addr) : List (Str × V) := putF "_loose" (.ref l) (putF "_kept" (.ref k) [])
theorem dkf_kept (k l : Addr) : (dkf k l).lookup ("_kept" : Str) = some (.ref k) := by
  unfold dkf
  rw [lookup_putF, if_neg kept_loose, lookup_putF, if_pos rfl]
theorem dkf_loose (k l : Addr) : (dkf k l).lookup ("_loose" : Str) = some (.ref l) := by
  unfold dkf
  rw [lookup_putF, if_pos rfl]
theorem dkf_no (k l : Addr) {m : Str} (h1 : ¬ m = "_loose") (h2 : ¬ m = "_kept") : (dkf k l).lookup m = none := by
  unfold dkf
  rw [lookup_putF, if_neg h1, lookup_putF, if_neg h2]
  rfl
theorem dkf_eq (k l : Addr) : dkf k l = ([("_kept", V.ref k), ("_loose", V.ref l)] : List (Str × V)) := by
  show (if ("_kept" : Str) = "_loose" then [(("_kept" : Str), V.ref l)] else (("_kept" : Str), V.ref k) :: putF "_loose" (V.ref l) []) = _
  rw [if_neg kept_loose]
  rfl
theorem dkf_putL (k l m : Addr) : putF "_loose" (.ref m) (dkf k l) = dkf k m := by
  rw [dkf_eq, dkf_eq]
  show (if ("_kept" : Str) = "_loose" then _ else (("_kept" : Str), V.ref k) :: (if ("_loose" : Str) = "_loose" then [(("_loose" : Str), V.ref m)] else _)) = _
  rw [if_neg kept_loose, if_pos rfl]
theorem dkf_putK (k l m : Addr) : putF "_kept" (.ref m) (dkf k l) = dkf m l := by
  rw [dkf_eq, dkf_eq]
  show (if ("_kept" : Str) = "_kept" then (("_kept" : Str), V.ref m) :: _ else _) = _
  rw [if_pos rfl]
/-- a disk at a: its bytes stand at k and l -/
structure Dk (T : Env K mg) (H : Hp) (a k l : Addr) (ks ls : List Int) : Prop where
  at_ : ∃ dx, H a = some (.ins T.a_Disk dx (dkf k l))
  hk : Li H k ks
  hl : Li H l ls
  ne : k ≠ l
theorem Dk.same {T : Env K mg} {H H' : Hp} {a k l : Addr} {ks ls : List Int} (h : Dk T H a k l ks ls) (s : Same H H') : Dk T H' a k l ks ls :=
  ⟨by obtain ⟨dx, h⟩ := h.at_; exact ⟨dx, s _ _ h⟩, s _ _ h.hk, s _ _ h.hl, h.ne⟩
theorem Dk.ak {T : Env K mg} {H : Hp} {a k l : Addr} {ks ls : List Int} (h : Dk T H a k l ks ls) : a ≠ k := fun e => by
  obtain ⟨dx, h1⟩ := h.at_
  have := h.hk
  rw [← e, Li, h1] at this
  cases this
theorem Dk.al {T : Env K mg} {H : Hp} {a k l : Addr} {ks ls : List Int} (h : Dk T H a k l ks ls) : a ≠ l := fun e => by
  obtain ⟨dx, h1⟩ := h.at_
  have := h.hl
  rw [← e, Li, h1] at this
  cases this
/-- what is no part of the disk stays, and no part of it either -/
def Ot (a k l x : Addr) : Prop := x ≠ a ∧ x ≠ k ∧ x ≠ l
def Kp (H H' : Hp) (a k l k' l' : Addr) : Prop := ∀ x o, H x = some o → Ot a k l x → H' x = some o ∧ Ot a k' l' x
theorem ne_l {H : Hp} {b l : Addr} {ls : List Int} {f : HO} (h : H b = some f) (hl : Li H l ls) (hf : ∀ xs, f ≠ .lst xs) : b ≠ l := fun e => by
  rw [e, hl] at h
  exact hf _ (Option.some.inj h).symm
def sp_Disk_init (T : Env K mg) : Sp := fun vs H Q E => ∃ (p dx : Addr), vs = [.ref p] ∧ H p = some (.ins T.a_Disk dx []) ∧
  ∀ k l H', H k = none → H l = none → Dk T H' p k l [] [] → (∀ c u, H c = some u → c ≠ p → H' c = some u) → Q .non H'
theorem ok_Disk_init (T : Env K mg) : FnOk P w K mg base (L2.CX P w) 1 T.a_Disk_init T.d_Disk_init ["self"] (sp_Disk_init T) := by
  refine T.F_Disk_init.okX sc_Disk_init (fun vs H Q E h => by obtain ⟨_, _, rfl, _⟩ := h; rfl) (fun cdv A outer s H vs Q E hr h => ?_)
  obtain ⟨p, dx, rfl, hp, h1⟩ := h
  refine ⟨_, (pss_cons (ps_fld (pv 0) (pe_lst pa_nil) rfl)
      (pss_one (ps_fld (pv 0) (pe_lst pa_nil) rfl))), ?_⟩
  refine ⟨Nat.zero_le _, fun k nk => ⟨_, rfl, p, T.a_Disk, dx, [], rfl, same_new nk _ _ hp, T.k_Disk.cl, T.n_Disk__kept, (by show 0 < 1000; decide), ?_⟩⟩
  have sk := same_new (o := .lst []) nk
  refine ⟨Nat.zero_le _, fun l nl => ?_⟩
  have npl : p ≠ l := fun e => by
    rw [← e, upd_same] at nl
    cases nl
  have nkp : k ≠ p := fun e => by
    rw [e, hp] at nk
    cases nk
  have nkl : k ≠ l := fun e => by
    rw [← e, upd_ne nkp, upd_same] at nl
    cases nl
  have nl0 : H l = none := by
    rw [upd_ne npl.symm, upd_ne nkl.symm] at nl
    exact nl
  refine ⟨_, rfl, p, T.a_Disk, dx, putF "_kept" (.ref k) [], rfl, by rw [upd_ne npl, upd_same], T.k_Disk.cl, T.n_Disk__loose, (by show 1 < 1000; decide), ?_⟩
  refine h1 k l _ nk nl0 ⟨⟨dx, upd_same⟩, ?_, ?_, nkl⟩ fun b o e hb => ?_
  · show upd _ _ _ _ = _
    rw [upd_ne nkp, upd_ne nkl, upd_ne nkp, upd_same]
    rfl
  · show upd _ _ _ _ = _
    rw [upd_ne npl.symm, upd_same]
    rfl
  · rw [upd_ne hb, upd_ne (ne_of_none e nl0), upd_ne hb]
    exact sk _ _ e
def sp_Disk_kept (T : Env K mg) : Sp := fun vs H Q E => ∃ (a k l : Addr) (ks ls : List Int), vs = [.ref a] ∧ Dk T H a k l ks ls ∧ ∀ q H', Same H H' → H q = none → Li H' q ks → Q (.ref q) H'
theorem ok_Disk_kept (T : Env K mg) : FnOk P w K mg base (L2.CX P w) 1 T.a_Disk_kept T.d_Disk_kept ["self"] (sp_Disk_kept T) := by
  refine T.F_Disk_kept.okX sc_Disk_kept (fun vs H Q E h => by obtain ⟨_, _, _, _, _, rfl, _⟩ := h; rfl) (fun cdv A outer s H vs Q E hr h => ?_)
  obtain ⟨a, k, l, ks, ls, rfl, hD, h1⟩ := h
  obtain ⟨dx, ha⟩ := hD.at_
  refine ⟨_, (pss_one (ps_ret (pe_callTy call_list_of (by rfl) T.z_list (by decide +kernel) (pa_cons (pe_fld (pv 0) rfl) pa_nil)))), ?_⟩
  exact ⟨_, rfl, a, _, _, _, _, rfl, ha, T.k_Disk.cl, T.n_Disk__kept, dkf_kept _ _, k, _, rfl, .inl (SqL.of hD.hk), fun q nq => h1 q _ (same_new nq) nq upd_same⟩
def sp_Disk_loose (T : Env K mg) : Sp := fun vs H Q E => ∃ (a k l : Addr) (ks ls : List Int), vs = [.ref a] ∧ Dk T H a k l ks ls ∧ ∀ q H', Same H H' → H q = none → Li H' q ls → Q (.ref q) H'
theorem ok_Disk_loose (T : Env K mg) : FnOk P w K mg base (L2.CX P w) 1 T.a_Disk_loose T.d_Disk_loose ["self"] (sp_Disk_loose T) := by
  refine T.F_Disk_loose.okX sc_Disk_loose (fun vs H Q E h => by obtain ⟨_, _, _, _, _, rfl, _⟩ := h; rfl) (fun cdv A outer s H vs Q E hr h => ?_)
  obtain ⟨a, k, l, ks, ls, rfl, hD, h1⟩ := h
  obtain ⟨dx, ha⟩ := hD.at_
  refine ⟨_, (pss_one (ps_ret (pe_callTy call_list_of (by rfl) T.z_list (by decide +kernel) (pa_cons (pe_fld (pv 0) rfl) pa_nil)))), ?_⟩
  exact ⟨_, rfl, a, _, _, _, _, rfl, ha, T.k_Disk.cl, T.n_Disk__loose, dkf_loose _ _, l, _, rfl, .inl (SqL.of hD.hl), fun q nq => h1 q _ (same_new nq) nq upd_same⟩
def sp_Disk_size (T : Env K mg) : Sp := fun vs H Q E => ∃ (a k l : Addr) (ks ls : List Int), vs = [.ref a] ∧ Dk T H a k l ks ls ∧ Q (.int ((ks.length : Nat) + (ls.length : Nat))) H
theorem ok_Disk_size (T : Env K mg) : FnOk P w K mg base (L2.CX P w) 1 T.a_Disk_size T.d_Disk_size ["self"] (sp_Disk_size T) := by
  refine T.F_Disk_size.okX sc_Disk_size (fun vs H Q E h => by obtain ⟨_, _, _, _, _, rfl, _⟩ := h; rfl) (fun cdv A outer s H vs Q E hr h => ?_)
  obtain ⟨a, k, l, ks, ls, rfl, hD, h1⟩ := h
  obtain ⟨dx, ha⟩ := hD.at_
  refine ⟨_, (pss_one (ps_ret (pe_op op_add (pe_callB call_len (by rfl) T.z_len (by decide +kernel) (pa_cons (pe_fld (pv 0) rfl) pa_nil)) (pe_callB call_len (by rfl) T.z_len (by decide +kernel) (pa_cons (pe_fld (pv 0) rfl) pa_nil))))), ?_⟩
  refine ⟨_, rfl, a, _, _, _, _, rfl, ha, T.k_Disk.cl, T.n_Disk__kept, dkf_kept _ _, _, _, rfl, .inl ⟨_, SqL.of hD.hk, rfl⟩, _, rfl, a, _, _, _, _, rfl, ha, T.k_Disk.cl, T.n_Disk__loose, dkf_loose _ _, _, _, rfl, .inl ⟨_, SqL.of hD.hl, rfl⟩, _, _, rfl, rfl, ?_⟩
  rw [List.length_map, List.length_map]
  exact h1
def sp_Disk_write (T : Env K mg) : Sp := fun vs H Q E => ∃ (a k l b : Addr) (ks ls B : List Int), vs = [.ref a, .ref b] ∧ Dk T H a k l ks ls ∧ Li H b B ∧ B.length ≤ 100000 ∧ ls.length ≤ 500000 ∧ ∀ H', Dk T H' a k l ks (ls ++ frame B) → Kp H H' a k l k l → Q .non H'
theorem ok_Disk_write (T : Env K mg) : FnOk P w K mg base (L2.CX P w) 5 T.a_Disk_write T.d_Disk_write ["self", "block"] (sp_Disk_write T) := by
  refine T.F_Disk_write.okX sc_Disk_write (fun vs H Q E h => by obtain ⟨_, _, _, _, _, _, _, rfl, _⟩ := h; rfl) (fun cdv A outer s H vs Q E hr h => ?_)
  obtain ⟨a, k, l, b, ks, ls, B, rfl, hD, hb, hB, hls, h1⟩ := h
  obtain ⟨dx, ha⟩ := hD.at_
  have hu64 := hu64_of hr
  have G_encode_frame := ok_encode_frame (P := P) (w := w) (base := base) T
  refine ⟨_, (pss_one (ps_expr (pe_bm PySem.F.plainAttrs_list PySem.F.slot_list_extend PySem.F.type_list_extend mt_extend (pe_fld (pv 0) rfl) (pa_cons (pe_call G_encode_frame (hr.mono (by decide)) rfl T.g_encode_frame T.F_encode_frame.kp T.b_encode_frame .nil passL (pa_cons (pv 1) pa_nil)) pa_nil)))), ?_⟩
  refine ⟨_, rfl, a, _, _, _, _, rfl, ha, T.k_Disk.cl, T.n_Disk__loose, dkf_loose _ _, .inl ⟨rfl, _, SqL.of hD.hl⟩, _, rfl, b, B, rfl, hb, hB, fun q H1 s1 nq hq => ?_⟩
  have fl : (frame B).length ≤ 100 + (B.length + 3) := by
    have := vint_len100 (len_NB (n := B.length) (by omega))
    unfold frame
    rw [List.length_append, sealed_len]
    omega
  refine ⟨l, q, _, _, rfl, rfl, s1 _ _ hD.hl, hq, szle (by rw [List.length_map, List.length_map]; omega), ?_⟩
  refine h1 _ ⟨⟨dx, by rw [upd_ne hD.al]; exact s1 _ _ ha⟩, by show upd _ _ _ _ = _; rw [upd_ne hD.ne]; exact s1 _ _ hD.hk, by show upd _ _ _ _ = _; rw [upd_same, ← List.map_append], hD.ne⟩ fun x o e hx => ⟨?_, hx⟩
  rw [upd_ne hx.2.2]
  exact s1 _ _ e
def sp_Disk_sync (T : Env K mg) : Sp := fun vs H Q E => ∃ (a k l : Addr) (ks ls : List Int), vs = [.ref a] ∧ Dk T H a k l ks ls ∧ ks.length + ls.length ≤ 1000000 ∧ ∀ l' H', Dk T H' a k l' (ks ++ ls) [] → Kp H H' a k l k l' → Q .non H'
theorem ok_Disk_sync (T : Env K mg) : FnOk P w K mg base (L2.CX P w) 1 T.a_Disk_sync T.d_Disk_sync ["self"] (sp_Disk_sync T) := by
  refine T.F_Disk_sync.okX sc_Disk_sync (fun vs H Q E h => by obtain ⟨_, _, _, _, _, rfl, _⟩ := h; rfl) (fun cdv A outer s H vs Q E hr h => ?_)
  obtain ⟨a, k, l, ks, ls, rfl, hD, hlen, h1⟩ := h
  obtain ⟨dx, ha⟩ := hD.at_
  refine ⟨_, (pss_cons (ps_expr (pe_bm PySem.F.plainAttrs_list PySem.F.slot_list_extend PySem.F.type_list_extend mt_extend (pe_fld (pv 0) rfl) (pa_cons (pe_fld (pv 0) rfl) pa_nil)))
      (pss_one (ps_fld (pv 0) (pe_lst pa_nil) rfl))), ?_⟩
  refine ⟨_, rfl, a, _, _, _, _, rfl, ha, T.k_Disk.cl, T.n_Disk__kept, dkf_kept _ _, .inl ⟨rfl, _, SqL.of hD.hk⟩, _, rfl, a, _, _, _, _, rfl, ha, T.k_Disk.cl, T.n_Disk__loose, dkf_loose _ _, k, l, _, _, rfl, rfl, hD.hk, hD.hl, szle (by rw [List.length_map, List.length_map]; omega), ?_⟩
  refine ⟨Nat.zero_le _, fun m nm => ?_⟩
  have nmk : m ≠ k := fun e => by
    rw [e, upd_same] at nm
    cases nm
  have nm0 : H m = none := by
    rw [upd_ne nmk] at nm
    exact nm
  have nma : a ≠ m := fun e => by
    rw [← e, ha] at nm0
    cases nm0
  refine ⟨_, rfl, a, T.a_Disk, dx, dkf k l, rfl, by rw [upd_ne nma, upd_ne hD.ak]; exact ha, T.k_Disk.cl, T.n_Disk__loose, (by rw [dkf_eq]; show 2 < 1000; decide), ?_⟩
  rw [dkf_putL]
  refine h1 m _ ⟨⟨dx, upd_same⟩, ?_, ?_, nmk.symm⟩ fun x o e hx => ⟨?_, hx.1, hx.2.1, fun q => by rw [q, nm0] at e; cases e⟩
  · show upd _ _ _ _ = _
    rw [upd_ne hD.ak.symm, upd_ne nmk.symm, upd_same, ← List.map_append]
  · show upd _ _ _ _ = _
    rw [upd_ne nma.symm, upd_same]
    rfl
  · rw [upd_ne hx.1, upd_ne (ne_of_none e nm0), upd_ne hx.2.1]
    exact e
/-- the loose bytes that a crash keeps -/
def sav (ls : List Int) (c : Nat) : Option Int → List Int
  | none => ls.take c
  | some b => (ls.take c).set (c - 1) b
def lastV : Option Int → V
  | none => .non
  | some b => .int b
def sp_Disk_crash (T : Env K mg) : Sp := fun vs H Q E => ∃ (a k l : Addr) (ks ls : List Int) (c : Int) (v : Option Int), vs = [.ref a, .int c, lastV v] ∧ Dk T H a k l ks ls ∧ ks.length + ls.length ≤ 1000000 ∧
  (0 ≤ c → c ≤ (ls.length : Nat) → (∀ b, v = some b → 0 ≤ b ∧ b ≤ 255) → ∀ l' H', Dk T H' a k l' (ks ++ sav ls c.toNat v) [] → Kp H H' a k l k l' → Q .non H') ∧
  ((c < 0 ∨ (ls.length : Nat) < c ∨ ∃ b, v = some b ∧ (b < 0 ∨ 255 < b)) → E (.ref T.c_BadArgument) none H)
theorem ok_Disk_crash (T : Env K mg) : FnOk P w K mg base (L2.CX P w) 1 T.a_Disk_crash T.d_Disk_crash ["self", "keep", "last"] (sp_Disk_crash T) := by
  refine T.F_Disk_crash.ok sc_Disk_crash (fun vs H Q E h => by obtain ⟨_, _, _, _, _, _, _, rfl, _⟩ := h; rfl) (fun cdv A outer s H vs Q E hr h => ?_)
  obtain ⟨a, k, l, ks, ls, c, v, rfl, hD, hlen, h1, h2⟩ := h
  obtain ⟨dx, ha⟩ := hD.at_
  refine ⟨_, (pss_cons (ps_if (PW.pt (pw_or (pt_cmpR op_lt (pv 1) pe_int (nomark _)) (pw_or1 (pt_cmpR op_gt (pv 1) (pe_callB call_len (by rfl) T.z_len (by decide +kernel) (pa_cons (pe_fld (pv 0) rfl) pa_nil)) (nomark _))))) (pss_one (ps_raise rfl (takes_of rfl rfl rfl rfl) (pmk_own PySem.F.excBase_ValueError T.e_BadArgument.xP T.e_BadArgument.gC T.e_BadArgument.kC (raises_own T.e_BadArgument.bP T.e_BadArgument.tP) (by exact rfl)))) pss_nil)
      (pss_cons (ps_if (PW.pt (pw_and (pt_cmpR op_notN (pv 2) pe_non (nomark _)) (pw_and1 (PW.pt (pw_or (pt_cmpR op_lt (pv 2) pe_int (nomark _)) (pw_or1 (pt_cmpR op_gt (pv 2) pe_int (nomark _)))))))) (pss_one (ps_raise rfl (takes_of rfl rfl rfl rfl) (pmk_own PySem.F.excBase_ValueError T.e_BadArgument.xP T.e_BadArgument.gC T.e_BadArgument.kC (raises_own T.e_BadArgument.bP T.e_BadArgument.tP) (by exact rfl)))) pss_nil)
      (pss_cons (ps_set (i := 3) sc_Disk_crash.nd rfl (Or.inl rfl) (pe_slice sl_list (pe_fld (pv 0) rfl) po_none (po_some (pv 1))))
      (pss_cons (ps_if (PW.pt (pw_and (pt_cmpR op_notN (pv 2) pe_non (nomark _)) (pw_and1 (pt_cmpR op_gt (pv 1) pe_int (nomark _))))) (pss_one (ps_asg (pv 2) (pg_sub (pv 3) (pe_un un_neg pe_int) set_list))) pss_nil)
      (pss_cons (ps_expr (pe_bm PySem.F.plainAttrs_list PySem.F.slot_list_extend PySem.F.type_list_extend mt_extend (pe_fld (pv 0) rfl) (pa_cons (pv 3) pa_nil)))
      (pss_one (ps_fld (pv 0) (pe_lst pa_nil) rfl))))))), ?_⟩
  refine ⟨_, rfl, _, _, rfl, rfl, _, rfl, iteD (fun c0 => h2 (.inl c0)) (fun c0 => ?_)⟩
  refine ⟨_, rfl, _, rfl, a, _, _, _, _, rfl, ha, T.k_Disk.cl, T.n_Disk__loose, dkf_loose _ _, _, _, rfl, .inl ⟨_, SqL.of hD.hl, rfl⟩, _, _, rfl, rfl, _, rfl, ?_⟩
  rw [List.length_map]
  refine iteD (fun c1 => h2 (.inr (.inl c1))) (fun c1 => ?_)
  have hv : (lastV v = .non ∧ v = none) ∨ ∃ b, lastV v = .int b ∧ v = some b := by
    cases v with
    | none => exact .inl ⟨rfl, rfl⟩
    | some b => exact .inr ⟨b, rfl, rfl⟩
  suffices rest : (∀ b, v = some b → 0 ≤ b ∧ b ≤ 255) → _ by
    refine ⟨_, rfl, rfl, _, rfl, ?_⟩
    rcases hv with ⟨e, ev⟩ | ⟨b, e, ev⟩
    · refine ifF (by show (!decide (lastV v = V.non)) = false; rw [e]; rfl) (ifF rfl ?_)
      exact rest fun b q => by rw [ev] at q; cases q
    · refine ifT (by show (!decide (lastV v = V.non)) = true; rw [e]; rfl) ?_
      refine ⟨_, rfl, _, _, e, rfl, _, rfl, iteD (fun q => ifT rfl (h2 (.inr (.inr ⟨b, ev, .inl q⟩)))) fun q => ⟨_, rfl, _, _, e, rfl, _, rfl, iteD (fun q2 => h2 (.inr (.inr ⟨b, ev, .inr q2⟩))) fun q2 => ?_⟩⟩
      exact rest fun b2 q3 => by rw [ev] at q3; cases q3; omega
  intro hb
  obtain ⟨n, rfl⟩ : ∃ n : Nat, c = n := ⟨c.toNat, by omega⟩
  have hn : n ≤ ls.length := by omega
  refine ⟨_, rfl, a, _, _, _, _, rfl, ha, T.k_Disk.cl, T.n_Disk__loose, dkf_loose _ _, _, rfl, _, rfl, l, _, rfl, SqL.of hD.hl, fun q nq => ?_⟩
  rw [cut_to, ← List.map_take]
  apply via (fun H1 => Same H H1 ∧ Li H1 q (sav ls n v))
  · intro fin
    have sq := same_new (o := .lst ((ls.take n).map V.int)) nq
    refine ⟨_, rfl, rfl, _, rfl, ?_⟩
    rcases hv with ⟨e, ev⟩ | ⟨b, e, ev⟩
    · refine ifF (by show (!decide (lastV v = V.non)) = false; rw [e]; rfl) (ifF rfl ?_)
      have f2 : Li (upd H q (.lst ((ls.take n).map V.int))) q (sav ls n v) := by rw [ev]; exact upd_same
      revert sq f2
      generalize upd H q (.lst ((ls.take n).map V.int)) = H1
      intro sq f2
      exact fin H1 ⟨sq, f2⟩
    · refine ifT (by show (!decide (lastV v = V.non)) = true; rw [e]; rfl) ?_
      refine ⟨_, rfl, _, _, rfl, rfl, _, rfl, iteD (fun q2 => ?_) (fun q2 => ?_)⟩
      · have q2 : (0 : Int) < n := q2
        refine ⟨_, rfl, _, rfl, _, rfl, q, _, _, _, rfl, rfl, upd_same, ixN_neg (k := 1) (by decide) (by rw [List.length_map, List.length_take]; omega), ?_⟩
        refine fin _ ⟨same_mut sq nq, ?_⟩
        show upd _ _ _ _ = _
        rw [upd_same, e, ev, ← List.map_set, List.length_map, List.length_take, Nat.min_eq_left hn]
        rfl
      · have q2 : ¬ (0 : Int) < n := q2
        refine fin _ ⟨sq, ?_⟩
        have n0 : n = 0 := by omega
        rw [ev, n0]
        exact upd_same
  rintro H1 ⟨s1, hq⟩
  have hD1 := hD.same s1
  have sl : (sav ls n v).length ≤ ls.length := by
    cases v with
    | none => show (ls.take n).length ≤ _; rw [List.length_take]; omega
    | some b => show ((ls.take n).set _ _).length ≤ _; rw [List.length_set, List.length_take]; omega
  refine ⟨_, rfl, a, _, _, _, _, rfl, s1 _ _ ha, T.k_Disk.cl, T.n_Disk__kept, dkf_kept _ _, .inl ⟨rfl, _, SqL.of hD1.hk⟩, _, rfl, k, q, _, _, rfl, rfl, hD1.hk, hq, szle (by rw [List.length_map, List.length_map]; omega), ?_⟩
  refine ⟨Nat.zero_le _, fun m nm => ?_⟩
  have nmk : m ≠ k := fun e => by
    rw [e, upd_same] at nm
    cases nm
  have nm1 : H1 m = none := by
    rw [upd_ne nmk] at nm
    exact nm
  have nm0 : H m = none := s1.free nm1
  have nma : a ≠ m := fun e => by
    rw [← e, ha] at nm0
    cases nm0
  refine ⟨_, rfl, a, T.a_Disk, dx, dkf k l, rfl, by rw [upd_ne nma, upd_ne hD.ak]; exact s1 _ _ ha, T.k_Disk.cl, T.n_Disk__loose, (by rw [dkf_eq]; show 2 < 1000; decide), ?_⟩
  rw [dkf_putL]
  refine h1 (by omega) (by omega) hb m _ ⟨⟨dx, upd_same⟩, ?_, ?_, nmk.symm⟩ fun x o e hx => ⟨?_, hx.1, hx.2.1, fun q => by rw [q, nm0] at e; cases e⟩
  · show upd _ _ _ _ = _
    rw [upd_ne hD.ak.symm, upd_ne nmk.symm, upd_same, ← List.map_append]
    rfl
  · show upd _ _ _ _ = _
    rw [upd_ne nma.symm, upd_same]
    rfl
  · rw [upd_ne hx.1, upd_ne (ne_of_none e nm0), upd_ne hx.2.1]
    exact s1 _ _ e
def sp_Disk_frames (T : Env K mg) : Sp := fun vs H Q E => ∃ (a k l : Addr) (ks ls : List Int), vs = [.ref a] ∧ Dk T H a k l ks ls ∧ ks.length + ls.length ≤ 1000000 ∧ ∀ p as H', Same H H' → H p = none → Blk H' p as (decFs (ks ++ ls)).1 → Q (.ref p) H'
theorem ok_Disk_frames (T : Env K mg) : FnOk P w K mg base (L2.CX P w) 6 T.a_Disk_frames T.d_Disk_frames ["self"] (sp_Disk_frames T) := by
  refine T.F_Disk_frames.okX sc_Disk_frames (fun vs H Q E h => by obtain ⟨_, _, _, _, _, rfl, _⟩ := h; rfl) (fun cdv A outer s H vs Q E hr h => ?_)
  obtain ⟨a, k, l, ks, ls, rfl, hD, hlen, h1⟩ := h
  obtain ⟨dx, ha⟩ := hD.at_
  have hu64 := hu64_of hr
  have G_decode_frames := ok_decode_frames (P := P) (w := w) (base := base) T
  refine ⟨_, (pss_cons (ps_asg (pe_call G_decode_frames (hr.mono (by decide)) rfl T.g_decode_frames T.F_decode_frames.kp T.b_decode_frames .nil passL (pa_cons (pe_op op_cat (pe_fld (pv 0) rfl) (pe_fld (pv 0) rfl)) pa_nil)) (pg_tup rfl (pgs_cons (pg_name (i := 1) sc_Disk_frames.nd rfl (Or.inl rfl)) (pgs_cons (pg_name (i := 2) sc_Disk_frames.nd rfl (Or.inl rfl)) pgs_nil))))
      (pss_one (ps_ret (pv 1)))), ?_⟩
  refine ⟨_, rfl, a, _, _, _, _, rfl, ha, T.k_Disk.cl, T.n_Disk__kept, dkf_kept _ _, _, rfl, a, _, _, _, _, rfl, ha, T.k_Disk.cl, T.n_Disk__loose, dkf_loose _ _, k, l, _, _, rfl, rfl, hD.hk, hD.hl, szle (by rw [List.length_map, List.length_map]; omega), fun q nq => ?_⟩
  rw [← List.map_append]
  have sq := same_new (o := .lst ((ks ++ ls).map V.int)) nq
  refine ⟨q, ks ++ ls, rfl, upd_same, by rw [List.length_append]; omega, fun t p as H1 s1 nt np ht hB => ?_⟩
  refine ⟨t, _, rfl, SqT.of ht, rfl, _, _, rfl, _, _, rfl, rfl, ?_⟩
  exact ⟨_, rfl, h1 p as _ (sq.trans s1) (sq.free np) hB⟩
def sp_Disk_mend (T : Env K mg) : Sp := fun vs H Q E => ∃ (a k l : Addr) (ks ls : List Int), vs = [.ref a] ∧ Dk T H a k l ks ls ∧ ks.length ≤ 1000000 ∧ 0 ≤ (decFs ks).2 ∧ ∀ k' l' H', Dk T H' a k' l' (ks.take (decFs ks).2.toNat) [] → Kp H H' a k l k' l' → Q .non H'
theorem ok_Disk_mend (T : Env K mg) : FnOk P w K mg base (L2.CX P w) 6 T.a_Disk_mend T.d_Disk_mend ["self"] (sp_Disk_mend T) := by
  refine T.F_Disk_mend.okX sc_Disk_mend (fun vs H Q E h => by obtain ⟨_, _, _, _, _, rfl, _⟩ := h; rfl) (fun cdv A outer s H vs Q E hr h => ?_)
  obtain ⟨a, k, l, ks, ls, rfl, hD, hlen, h0, h1⟩ := h
  obtain ⟨dx, ha⟩ := hD.at_
  have hu64 := hu64_of hr
  have G_decode_frames := ok_decode_frames (P := P) (w := w) (base := base) T
  refine ⟨_, (pss_cons (ps_asg (pe_call G_decode_frames (hr.mono (by decide)) rfl T.g_decode_frames T.F_decode_frames.kp T.b_decode_frames .nil passL (pa_cons (pe_fld (pv 0) rfl) pa_nil)) (pg_tup rfl (pgs_cons (pg_name (i := 1) sc_Disk_mend.nd rfl (Or.inl rfl)) (pgs_cons (pg_name (i := 2) sc_Disk_mend.nd rfl (Or.inl rfl)) pgs_nil))))
      (pss_cons (ps_fld (pv 0) (pe_slice sl_list (pe_fld (pv 0) rfl) po_none (po_some (pv 2))) rfl)
      (pss_one (ps_fld (pv 0) (pe_lst pa_nil) rfl)))), ?_⟩
  refine ⟨_, rfl, a, _, _, _, _, rfl, ha, T.k_Disk.cl, T.n_Disk__kept, dkf_kept _ _, k, ks, rfl, hD.hk, hlen, fun t p as H1 s1 nt np ht hB => ?_⟩
  refine ⟨t, _, rfl, SqT.of ht, rfl, _, _, rfl, _, _, rfl, rfl, ?_⟩
  have hD1 := hD.same s1
  refine ⟨_, rfl, a, _, _, _, _, rfl, s1 _ _ ha, T.k_Disk.cl, T.n_Disk__kept, dkf_kept _ _, _, rfl, _, rfl, k, _, rfl, SqL.of hD1.hk, fun m nm => ?_⟩
  have ec : cutV (ks.map V.int) none (some (decFs ks).2) = (ks.take (decFs ks).2.toNat).map V.int := by
    rw [show (decFs ks).2 = (((decFs ks).2.toNat : Nat) : Int) by omega, cut_to, List.map_take]
    rfl
  rw [ec]
  have s2 := s1.trans (same_new (o := .lst ((ks.take (decFs ks).2.toNat).map V.int)) nm)
  have nm0 : H m = none := s1.free nm
  have nma : a ≠ m := fun e => by
    rw [← e, ha] at nm0
    cases nm0
  refine ⟨_, rfl, a, T.a_Disk, dx, dkf k l, rfl, s2 _ _ ha, T.k_Disk.cl, T.n_Disk__kept, (by rw [dkf_eq]; show 2 < 1000; decide), ?_⟩
  rw [dkf_putK]
  refine ⟨Nat.zero_le _, fun g ng => ?_⟩
  have nga : g ≠ a := fun e => by
    rw [e, upd_same] at ng
    cases ng
  rw [upd_ne nga] at ng
  have ngm : g ≠ m := fun e => by
    rw [e, upd_same] at ng
    cases ng
  have ng0 : H g = none := s2.free ng
  refine ⟨_, rfl, a, T.a_Disk, dx, dkf m l, rfl, by rw [upd_ne nga.symm, upd_same], T.k_Disk.cl, T.n_Disk__loose, (by rw [dkf_eq]; show 2 < 1000; decide), ?_⟩
  rw [dkf_putL]
  refine h1 m g _ ⟨⟨dx, upd_same⟩, ?_, ?_, ngm.symm⟩ fun x o e hx => ⟨?_, hx.1, fun q => (by rw [q, nm0] at e; cases e), fun q => (by rw [q, ng0] at e; cases e)⟩
  · show upd _ _ _ _ = _
    rw [upd_ne nma.symm, upd_ne ngm.symm, upd_ne nma.symm, upd_same]
  · show upd _ _ _ _ = _
    rw [upd_ne nga, upd_same]
    rfl
  · rw [upd_ne hx.1, upd_ne (ne_of_none e ng0), upd_ne hx.1]
    exact s2 _ _ e

--PART /work/steering/wip/parts/frmath.lean
/-! what stands behind frames -/
theorem frame_len (B : List Int) : (frame B).length = (vint (B.length : Nat)).length + (B.length + 3) := by
  unfold frame
  rw [List.length_append, sealed_len]
theorem dec_frame (pre t : List Int) (B : List Int) : dec (pre ++ (frame B ++ t)) (pre.length : Nat) = some (((B.length : Nat) : Int), ((pre.length : Nat) : Int) + ((vint (B.length : Nat)).length : Nat)) := by
  have := dec_vint pre (sealed B ++ t) (n := (B.length : Nat)) (by omega)
  unfold frame
  rw [List.append_assoc]
  exact this
theorem drop_to (pre v t : List Int) : (pre ++ (v ++ t)).drop (((pre.length : Nat) : Int) + (v.length : Nat)).toNat = t := by
  rw [show (((pre.length : Nat) : Int) + (v.length : Nat)).toNat = (pre ++ v).length by rw [List.length_append]; omega, ← List.append_assoc]
  exact List.drop_left' rfl
theorem decF_frame (pre t : List Int) (B : List Int) : decF (pre ++ (frame B ++ t)) (pre.length : Nat) = .ok B (((pre.length : Nat) : Int) + ((frame B).length : Nat)) := by
  unfold decF
  rw [dec_frame]
  have hl : (pre ++ (frame B ++ t)).length = pre.length + (frame B).length + t.length := by simp; omega
  have fl := frame_len B
  have e1 : (pre ++ (frame B ++ t)).drop (((pre.length : Nat) : Int) + ((vint (B.length : Nat)).length : Nat)).toNat = sealed B ++ t := by
    unfold frame
    rw [List.append_assoc]
    exact drop_to _ _ _
  show (if _ then FR.cut else _) = _
  rw [if_neg (by rw [hl]; omega), e1]
  have e2 : (((pre.length : Nat) : Int) + ((vint (B.length : Nat)).length : Nat) + ((B.length : Nat) : Int) + 3 - (((pre.length : Nat) : Int) + ((vint (B.length : Nat)).length : Nat))).toNat = (sealed B).length := by
    rw [sealed_len]
    omega
  rw [e2, List.take_left' rfl, if_pos (open_sealed B), take_sealed]
  congr 1
  rw [fl]
  omega
theorem decF_cut (pre : List Int) (B : List Int) (c : Nat) (hc : c < (frame B).length) : decF (pre ++ (frame B).take c) (pre.length : Nat) = .cut := by
  have n0 : (0 : Int) ≤ (B.length : Nat) := by omega
  have fl := frame_len B
  by_cases k : c < (vint (B.length : Nat)).length
  · obtain ⟨_, _, h3, _, l, el, _, _⟩ := scan_vint _ (B.length : Nat) [] (Nat.lt_succ_self _) n0
    have : dec (pre ++ (frame B).take c) (pre.length : Nat) = none := by
      unfold dec
      rw [if_neg (by omega), Int.toNat_natCast, List.drop_left' rfl, scan_none fun b hb => ?_]
      have hb2 : b ∈ (vint (B.length : Nat)).take c := by
        unfold frame at hb
        rw [List.take_append_of_le_length (by omega)] at hb
        exact hb
      rw [el] at hb2
      have ll := congrArg List.length el
      rw [List.length_append] at ll
      simp at ll
      rw [List.take_append_of_le_length (by rw [List.length_dropLast]; omega)] at hb2
      exact h3 b (List.mem_of_mem_take hb2)
    unfold decF
    rw [this]
  · have e : (frame B).take c = vint (B.length : Nat) ++ (sealed B).take (c - (vint (B.length : Nat)).length) := by
      unfold frame
      rw [List.take_append, List.take_of_length_le (by omega)]
    rw [e]
    unfold decF
    rw [dec_vint _ _ n0]
    show (if _ then FR.cut else _) = _
    rw [if_pos]
    rw [List.length_append, List.length_append, List.length_take, sealed_len]
    omega
theorem decF_torn (pre : List Int) (B : List Int) (x : Int) (hB : ∀ b ∈ B, 0 ≤ b ∧ b < 256) (hx : 0 ≤ x ∧ x < 256) (hne : (sealed B)[B.length + 2]? ≠ some x) :
    decF (pre ++ (vint (B.length : Nat) ++ (sealed B).set (B.length + 2) x)) (pre.length : Nat) = .torn := by
  have n0 : (0 : Int) ≤ (B.length : Nat) := by omega
  have sl := sealed_len B
  unfold decF
  rw [dec_vint _ _ n0]
  show (if _ then FR.cut else _) = _
  rw [if_neg (by rw [List.length_append, List.length_append, List.length_set]; omega), drop_to]
  have e2 : (((pre.length : Nat) : Int) + ((vint (B.length : Nat)).length : Nat) + ((B.length : Nat) : Int) + 3 - (((pre.length : Nat) : Int) + ((vint (B.length : Nat)).length : Nat))).toNat = ((sealed B).set (B.length + 2) x).length := by
    rw [List.length_set, sl]
    omega
  rw [e2, List.take_length, if_neg (spoilt_not B (B.length + 2) x (by omega) hne hB hx)]
/-- the frames of a list of blocks, one behind the other -/
def encB (bs : List (List Int)) : List Int := (bs.map frame).flatten
theorem encB_cons (b : List Int) (bs : List (List Int)) : encB (b :: bs) = frame b ++ encB bs := rfl
theorem encB_snoc (bs : List (List Int)) (b : List Int) : encB (bs ++ [b]) = encB bs ++ frame b := by simp [encB]
theorem go_enc : ∀ (bs : List (List Int)) (pre t : List Int) (k : Nat), framesGo (pre ++ (encB bs ++ t)) (k + bs.length) (pre.length : Nat) =
    (bs ++ (framesGo (pre ++ (encB bs ++ t)) k (((pre ++ encB bs).length : Nat) : Int)).1, (framesGo (pre ++ (encB bs ++ t)) k (((pre ++ encB bs).length : Nat) : Int)).2)
  | [], pre, t, k => by
    simp [encB]
  | b :: bs, pre, t, k => by
    have fl := frame_len b
    have e : pre ++ (encB (b :: bs) ++ t) = pre ++ (frame b ++ (encB bs ++ t)) := by rw [encB_cons, List.append_assoc]
    have ih := go_enc bs (pre ++ frame b) t k
    rw [List.append_assoc] at ih
    rw [e]
    have hi : ((pre.length : Nat) : Int) < ((pre ++ (frame b ++ (encB bs ++ t))).length : Nat) := by
      rw [List.length_append, List.length_append]
      omega
    have st : framesGo (pre ++ (frame b ++ (encB bs ++ t))) (k + (b :: bs).length) (pre.length : Nat) =
        (b :: (framesGo (pre ++ (frame b ++ (encB bs ++ t))) (k + bs.length) (((pre.length : Nat) : Int) + ((frame b).length : Nat))).1, (framesGo (pre ++ (frame b ++ (encB bs ++ t))) (k + bs.length) (((pre.length : Nat) : Int) + ((frame b).length : Nat))).2) := by
      show framesGo _ (k + bs.length + 1) _ = _
      show (if _ then (match decF _ _ with | .ok b e => _ | _ => _) else _) = _
      rw [if_pos hi, decF_frame]
    rw [st, show (((pre.length : Nat) : Int) + ((frame b).length : Nat)) = (((pre ++ frame b).length : Nat) : Int) by rw [List.length_append]; omega, ih]
    rw [show (pre ++ frame b ++ encB bs) = pre ++ encB (b :: bs) by rw [encB_cons, List.append_assoc]]
    rfl
theorem decFs_enc (bs : List (List Int)) (t : List Int) (ht : t = [] ∨ ∀ b e, decF (encB bs ++ t) ((encB bs).length : Nat) ≠ .ok b e) : decFs (encB bs ++ t) = (bs, (((encB bs).length : Nat) : Int)) := by
  have hl : ∀ cs : List (List Int), cs.length ≤ (encB cs).length := fun cs => by
    induction cs with
    | nil => exact Nat.le_refl _
    | cons c r ih =>
      rw [encB_cons, List.length_append, frame_len, List.length_cons]
      omega
  have := go_enc bs [] t ((encB bs ++ t).length + 1 - bs.length)
  have hb := hl bs
  rw [Nat.sub_add_cancel (by rw [List.length_append]; omega), List.nil_append, List.nil_append] at this
  have en : framesGo (encB bs ++ t) ((encB bs ++ t).length + 1 - bs.length) ((encB bs).length : Nat) = ([], (((encB bs).length : Nat) : Int)) := by
    refine framesGo_end ?_
    rcases ht with h | h
    · left
      rw [h, List.append_nil]
      omega
    · exact .inr h
  rw [en, List.append_nil] at this
  exact this
def sp__law_sum (T : Env K mg) : Sp := fun vs H Q E => ∃ (a : Addr) (ns : List Int), vs = [.ref a] ∧ SqL K H a (ns.map V.int) ∧ Q (.int (ck ns)) H
theorem ok__law_sum (T : Env K mg) : FnOk P w K mg base (L2.CX P w) 1 T.a__law_sum T.d__law_sum ["block"] (sp__law_sum T) := by
  refine T.F__law_sum.okX sc__law_sum (fun vs H Q E h => by obtain ⟨_, _, rfl, _⟩ := h; rfl) (fun cdv A outer s H vs Q E hr h => ?_)
  obtain ⟨a, ns, rfl, hS, h1⟩ := h
  refine ⟨_, (pss_cons (ps_set (i := 1) sc__law_sum.nd rfl (Or.inl rfl) pe_int)
      (pss_cons (ps_for (passes_of rfl) rfl (pi_list (pv 0)) (pg_name (i := 2) sc__law_sum.nd rfl (Or.inl rfl)) (pss_one (ps_set (i := 1) sc__law_sum.nd rfl (Or.inl rfl) (pe_op op_mod (pe_callTy call_int1 (by rfl) T.z_int (by decide +kernel) (pa_cons (pe_op op_add (pe_op op_add (pe_op op_mul pe_int (pv 1)) (pv 2)) pe_int) pa_nil)) pe_int))))
      (pss_one (ps_ret (pv 1))))), ?_⟩
  refine ⟨_, rfl, a, rfl, ⟨_, hS⟩, for_list (K := K) (a := a) (xs := ns.map V.int) (fun i σ H' => ∃ v, σ = [some (.ref a), some (.int ((ns.take i).foldl ckStep 7)), v] ∧ H' = H) ⟨none, rfl, rfl⟩ (fun i σ H' _ ⟨_, _, e⟩ => by rw [e]; exact hS) ?_ ?_⟩
  · rintro i y σ H' hi ⟨v, rfl, rfl⟩
    obtain ⟨n, hn, rfl⟩ := mem_int hi
    refine ⟨_, rfl, _, _, rfl, rfl, .inl ⟨by decide, by decide⟩, _, rfl, _, _, rfl, rfl, _, _, rfl, rfl, .inl ⟨_, rfl, _, _, rfl, rfl, by show (0 : Int) < _; decide, ?_⟩⟩
    refine ⟨some (.int n), ?_, rfl⟩
    rw [take_succ hn, List.foldl_append]
    rfl
  · rintro σ H' ⟨v, rfl, rfl⟩
    rw [List.length_map, List.take_length]
    exact ⟨_, rfl, h1⟩
def sp__law_sealed (T : Env K mg) : Sp := fun vs H Q E => ∃ (a : Addr) (ns : List Int), vs = [.ref a] ∧ Li H a ns ∧ ns.length ≤ 500000 ∧ ∀ p H', Same H H' → H p = none → Li H' p (sealed ns) → Q (.ref p) H'
theorem ok__law_sealed (T : Env K mg) : FnOk P w K mg base (L2.CX P w) 2 T.a__law_sealed T.d__law_sealed ["block"] (sp__law_sealed T) := by
  refine T.F__law_sealed.okX sc__law_sealed (fun vs H Q E h => by obtain ⟨_, _, rfl, _⟩ := h; rfl) (fun cdv A outer s H vs Q E hr h => ?_)
  obtain ⟨a, ns, rfl, hL, hlen, h1⟩ := h
  have hu64 := hu64_of hr
  have G__law_sum := ok__law_sum (P := P) (w := w) (base := base) T
  refine ⟨_, (pss_cons (ps_set (i := 1) sc__law_sealed.nd rfl (Or.inl rfl) (pe_call G__law_sum (hr.mono (by decide)) rfl T.g__law_sum T.F__law_sum.kp T.b__law_sum .nil passL (pa_cons (pv 0) pa_nil)))
      (pss_one (ps_ret (pe_op op_cat (pe_callTy call_list_of (by rfl) T.z_list (by decide +kernel) (pa_cons (pv 0) pa_nil)) (pe_lst (pa_cons (pe_op op_fdiv (pv 1) pe_int) (pa_cons (pe_op op_mod (pe_op op_fdiv (pv 1) pe_int) pe_int) (pa_cons (pe_op op_mod (pe_callTy call_int1 (by rfl) T.z_int (by decide +kernel) (pa_cons (pv 1) pa_nil)) pe_int) pa_nil)))))))), ?_⟩
  refine ⟨_, rfl, a, ns, rfl, SqL.of hL, ?_⟩
  refine ⟨_, rfl, a, _, rfl, .inl (SqL.of hL), fun l nl => ?_⟩
  refine ⟨_, rfl, _, _, rfl, rfl, ⟨by decide, by decide⟩, _, rfl, _, _, rfl, rfl, ⟨by decide, by decide⟩, _, _, rfl, rfl, by show (0 : Int) < _; decide, _, rfl, .inl ⟨_, rfl, _, _, rfl, rfl, by show (0 : Int) < _; decide, (by show 3 ≤ sizeLine; decide), fun p np => ?_⟩⟩
  refine ⟨l, p, _, _, rfl, rfl, same_new np _ _ upd_same, upd_same, szle (by rw [List.length_map]; show _ + 3 ≤ _; omega), fun q nq => ?_⟩
  exact h1 q _ (((same_new nl).trans (same_new np)).trans (same_new nq)) (((same_new nl).trans (same_new np)).free nq) (by show upd _ _ _ _ = _; rw [upd_same]; unfold sealed; rw [List.map_append]; rfl)
def sp__law_frame (T : Env K mg) : Sp := fun vs H Q E => ∃ (a : Addr) (B : List Int), vs = [.ref a] ∧ Li H a B ∧ B.length ≤ 100000 ∧ ∀ p H', Same H H' → H p = none → Li H' p (frame B) → Q (.ref p) H'
theorem ok__law_frame (T : Env K mg) : FnOk P w K mg base (L2.CX P w) 3 T.a__law_frame T.d__law_frame ["block"] (sp__law_frame T) := by
  refine T.F__law_frame.okX sc__law_frame (fun vs H Q E h => by obtain ⟨_, _, rfl, _⟩ := h; rfl) (fun cdv A outer s H vs Q E hr h => ?_)
  obtain ⟨a, B, rfl, hL, hlen, h1⟩ := h
  have hu64 := hu64_of hr
  have G__law_varint := ok__law_varint (P := P) (w := w) (base := base) T
  have G__law_sealed := ok__law_sealed (P := P) (w := w) (base := base) T
  refine ⟨_, (pss_one (ps_ret (pe_op op_cat (pe_call G__law_varint (hr.mono (by decide)) rfl T.g__law_varint T.F__law_varint.kp T.b__law_varint .nil passL (pa_cons (pe_callB call_len (by rfl) T.z_len (by decide +kernel) (pa_cons (pv 0) pa_nil)) pa_nil)) (pe_call G__law_sealed (hr.mono (by decide)) rfl T.g__law_sealed T.F__law_sealed.kp T.b__law_sealed .nil passL (pa_cons (pv 0) pa_nil))))), ?_⟩
  refine ⟨_, rfl, _, _, rfl, .inl ⟨_, SqL.of hL, rfl⟩, _, rfl, ?_⟩
  rw [List.length_map]
  refine ⟨by omega, len_NB (by omega), fun p H1 s1 np hp => ?_⟩
  have hv := vint_len100 (len_NB (n := B.length) (by omega))
  refine ⟨_, rfl, a, B, rfl, s1 _ _ hL, by omega, fun q H2 s2 nq hq => ⟨p, q, _, _, rfl, rfl, s2 _ _ hp, hq, szle (by rw [List.length_map, List.length_map, sealed_len]; omega), fun r nr => ?_⟩⟩
  exact h1 r _ ((s1.trans s2).trans (same_new nr)) ((s1.trans s2).free nr) (by show upd _ _ _ _ = _; rw [upd_same, ← List.map_append]; rfl)

--PART /work/steering/wip/parts/k09.lean
/-! what a crash leaves -/
def surv : List (List Int) → Int → Bool → List (List Int)
  | [], _, _ => []
  | b :: r, c, t => if c - ((frame b).length : Nat) < 0 ∨ (c - ((frame b).length : Nat) = 0 ∧ t = true) then [] else b :: surv r (c - ((frame b).length : Nat)) t
theorem surv_cons (b : List Int) (r : List (List Int)) (c : Int) (t : Bool) : surv (b :: r) c t = if c - ((frame b).length : Nat) < 0 ∨ (c - ((frame b).length : Nat) = 0 ∧ t = true) then [] else b :: surv r (c - ((frame b).length : Nat)) t := rfl
theorem surv_sub : ∀ ws c t, ∀ b ∈ surv ws c t, b ∈ ws
  | [], _, _, b, h => h
  | w :: r, c, t, b, h => by
    unfold surv at h
    split at h
    · cases h
    · rcases List.mem_cons.mp h with e | e
      · exact e ▸ List.mem_cons_self
      · exact List.mem_cons_of_mem _ (surv_sub r _ t b e)
theorem surv_len : ∀ ws c t, (surv ws c t).length ≤ ws.length
  | [], _, _ => Nat.le_refl _
  | w :: r, c, t => by
    unfold surv
    split
    · exact Nat.zero_le _
    · have := surv_len r (c - ((frame w).length : Nat)) t
      simp
      exact this
theorem scan_last : ∀ (l d t : List Int), scan l = some (d, t) → ∃ e x, d = e ++ [x] ∧ x < 128
  | [], _, _, h => by cases h
  | b :: r, d, t, h => by
    by_cases c : 128 ≤ b
    · have e : scan (b :: r) = (scan r).map (fun p => (b :: p.1, p.2)) := by
        show (if 128 ≤ b then _ else _) = _
        rw [if_pos c]
      rw [e] at h
      cases k : scan r with
      | none => rw [k] at h; cases h
      | some p =>
        rw [k] at h
        have h2 : (b :: p.1, p.2) = (d, t) := Option.some.inj h
        obtain ⟨f, x, h3, h4⟩ := scan_last r p.1 p.2 k
        cases h2
        exact ⟨b :: f, x, by rw [h3]; rfl, h4⟩
    · rw [scan_stop b r c] at h
      have h2 : ([b], r) = (d, t) := Option.some.inj h
      cases h2
      exact ⟨[], b, rfl, by omega⟩
/-- where dec stops, a small byte stands -/
theorem dec_stop {ns : List Int} {i v s : Int} (h : dec ns i = some (v, s)) : ∃ x, ns[s.toNat - 1]? = some x ∧ x < 128 := by
  obtain ⟨h1, h2, h3, h4⟩ := dec_some h
  unfold dec at h
  rw [if_neg (by omega)] at h
  split at h
  · cases h
  · rename_i d t hs
    split at h
    · cases h
    · cases h
      obtain ⟨he, hne⟩ := scan_some _ _ _ hs
      obtain ⟨e, x, hd, hx⟩ := scan_last _ _ _ hs
      refine ⟨x, ?_, hx⟩
      have : ns[i.toNat + e.length]? = some x := by
        rw [← List.getElem?_drop, he, hd, List.append_assoc, List.getElem?_append_right (Nat.le_refl _), Nat.sub_self]
        rfl
      rw [← this]
      congr 1
      rw [hd, List.length_append]
      show (i + ((e.length + 1 : Nat) : Int)).toNat - 1 = _
      omega
/-- a frame cut short, its last byte changed or not, is no frame -/
theorem cut_no (pre : List Int) (B tl : List Int) (hl : tl.length < (frame B).length) (he : ∀ j, j + 1 < tl.length → tl[j]? = (frame B)[j]?) : ∀ b e, decF (pre ++ tl) (pre.length : Nat) ≠ .ok b e := by
  intro b e hq
  have n0 : (0 : Int) ≤ (B.length : Nat) := by omega
  have fl := frame_len B
  obtain ⟨_, _, h3, _, l, el, _, _⟩ := scan_vint _ (B.length : Nat) [] (Nat.lt_succ_self _) n0
  have ll := congrArg List.length el
  rw [List.length_append, List.length_dropLast] at ll
  have ll : (vint (B.length : Nat)).length = (vint (B.length : Nat)).length - 1 + 1 := ll
  by_cases k : tl.length ≤ (vint (B.length : Nat)).length
  · unfold decF at hq
    split at hq
    · cases hq
    · rename_i n s hd
      obtain ⟨d1, d2, d3, d4⟩ := dec_some hd
      obtain ⟨x, hx, hx2⟩ := dec_stop hd
      rw [List.length_append] at d4
      split at hq
      · cases hq
      · rename_i hs
        rw [List.length_append] at hs
        rw [List.getElem?_append_right (by omega)] at hx
        rw [he _ (by omega)] at hx
        have hj : s.toNat - 1 - pre.length < (vint (B.length : Nat)).length - 1 := by omega
        unfold frame at hx
        rw [List.getElem?_append_left (by omega), el, List.getElem?_append_left (by rw [List.length_dropLast]; exact hj)] at hx
        have := h3 x (List.mem_of_getElem? hx)
        omega
  · have ev : tl = vint (B.length : Nat) ++ tl.drop (vint (B.length : Nat)).length := by
      have : tl.take (vint (B.length : Nat)).length = vint (B.length : Nat) := by
        apply List.ext_getElem?
        intro j
        rw [List.getElem?_take]
        split
        · rename_i hj
          rw [he j (by omega)]
          unfold frame
          rw [List.getElem?_append_left hj]
        · rename_i hj
          rw [List.getElem?_eq_none (by omega)]
      conv => lhs; rw [← List.take_append_drop (vint (B.length : Nat)).length tl, this]
    rw [ev] at hq
    unfold decF at hq
    rw [dec_vint _ _ n0] at hq
    dsimp only at hq
    rw [if_pos] at hq
    · cases hq
    · rw [List.length_append, List.length_append, List.length_drop]
      omega
theorem surv_ok : ∀ (ws : List (List Int)) (sv : List Int), (∀ b ∈ ws, ∀ x ∈ b, 0 ≤ x ∧ x < 256) → (∀ x ∈ sv, 0 ≤ x ∧ x < 256) → sv.length ≤ (encB ws).length → (∀ j, j + 1 < sv.length → sv[j]? = (encB ws)[j]?) →
    ∃ tl, sv = encB (surv ws (sv.length : Nat) (decide (sv ≠ (encB ws).take sv.length))) ++ tl ∧ (tl = [] ∨ ∀ pre b e, decF (pre ++ tl) (pre.length : Nat) ≠ .ok b e)
  | [], sv, _, _, hl, _ => ⟨[], by
    have : sv = [] := List.length_eq_zero_iff.mp (Nat.le_zero.mp hl)
    rw [this]
    rfl, .inl rfl⟩
  | w :: r, sv, hw, hs, hl, he => by
    have fl := frame_len w
    have eE : encB (w :: r) = frame w ++ encB r := rfl
    rw [eE] at hl he
    rw [eE]
    rw [List.length_append] at hl
    by_cases c : sv.length < (frame w).length
    · refine ⟨sv, ?_, .inr fun pre b e => cut_no pre w sv c (fun j hj => ?_) b e⟩
      · unfold surv
        rw [if_pos (.inl (by omega))]
        rfl
      · rw [he j hj, List.getElem?_append_left (by omega)]
    · by_cases c2 : sv.length = (frame w).length
      · rw [List.take_left' c2.symm]
        by_cases c3 : sv = frame w
        · refine ⟨[], ?_, .inl rfl⟩
          unfold surv
          rw [if_neg (by rw [c3]; simp)]
          have : ∀ (q : List (List Int)) (t : Bool), surv q ((sv.length : Nat) - ((frame w).length : Nat)) t = [] := fun q t => by
            cases q with
            | nil => rfl
            | cons y z =>
              unfold surv
              rw [if_pos (.inl (by have := frame_len y; omega))]
          rw [this, List.append_nil, c3]
          show _ = frame w ++ []
          rw [List.append_nil]
        · refine ⟨sv, ?_, .inr fun pre b e hq => ?_⟩
          · unfold surv
            rw [if_pos (.inr ⟨by omega, decide_eq_true c3⟩)]
            rfl
          · have sl := sealed_len w
            have vp : (frame w).length = (vint (w.length : Nat)).length + (w.length + 3) := fl
            obtain ⟨x, hx⟩ : ∃ x, sv[sv.length - 1]? = some x := ⟨_, List.getElem?_eq_getElem (by omega)⟩
            have es : sv = vint (w.length : Nat) ++ (sealed w).set (w.length + 2) x := by
              have : sv = (frame w).set (sv.length - 1) x := by
                apply List.ext_getElem?
                intro j
                by_cases hj : j = sv.length - 1
                · subst hj
                  rw [hx, List.getElem?_set_self (by omega)]
                · rw [List.getElem?_set_ne (fun q => hj q.symm)]
                  by_cases hj2 : j + 1 < sv.length
                  · rw [he j hj2, List.getElem?_append_left (by omega)]
                  · rw [List.getElem?_eq_none (by omega), List.getElem?_eq_none (by omega)]
              rw [this]
              unfold frame
              rw [List.set_append_right _ _ (by omega)]
              congr 2
              omega
            have hne : (sealed w)[w.length + 2]? ≠ some x := fun q => c3 (by
              rw [es]
              unfold frame
              congr 1
              apply List.ext_getElem?
              intro j
              by_cases hj : j = w.length + 2
              · subst hj
                rw [List.getElem?_set_self (by omega), q]
              · rw [List.getElem?_set_ne (fun q => hj q.symm)])
            have := decF_torn pre w x (hw w List.mem_cons_self) (hs x (List.mem_of_getElem? hx)) hne
            rw [← es, hq] at this
            cases this
      · have et : sv.take (frame w).length = frame w := by
          apply List.ext_getElem?
          intro j
          rw [List.getElem?_take]
          split
          · rename_i hj
            rw [he j (by omega), List.getElem?_append_left hj]
          · rw [List.getElem?_eq_none (by omega)]
        have es : sv = frame w ++ sv.drop (frame w).length := by
          conv => lhs; rw [← List.take_append_drop (frame w).length sv, et]
        have ih := surv_ok r (sv.drop (frame w).length) (fun b hb => hw b (List.mem_cons_of_mem _ hb)) (fun x hx => hs x (List.mem_of_mem_drop hx)) (by rw [List.length_drop]; omega) (fun j hj => by
          rw [List.length_drop] at hj
          rw [List.getElem?_drop, he _ (by omega), List.getElem?_append_right (by omega)]
          congr 1
          omega)
        obtain ⟨tl, h1, h2⟩ := ih
        refine ⟨tl, ?_, h2⟩
        have ed : (sv ≠ (frame w ++ encB r).take sv.length) = (sv.drop (frame w).length ≠ (encB r).take (sv.drop (frame w).length).length) := by
          rw [List.take_append, List.take_of_length_le (by omega), List.length_drop]
          apply propext
          constructor
          · intro h q
            exact h (by rw [← q]; exact es)
          · intro h q
            apply h
            conv => lhs; rw [q]
            rw [List.drop_left' rfl]
        unfold surv
        rw [if_neg (by omega)]
        show _ = frame w ++ encB _ ++ tl
        rw [List.append_assoc]
        conv => lhs; rw [es, h1]
        congr 2
        congr 1
        rw [List.length_drop]
        simp only [ed, List.length_drop]
        congr 1
        omega
/-! the law's own words -/
def sp__law_refused (T : Env K mg) : Sp := fun vs H Q E => ∃ (a k l : Addr) (ks ls : List Int) (c : Int) (v : Option Int), vs = [.ref a, .int c, lastV v] ∧ Dk T H a k l ks ls ∧ ks.length + ls.length ≤ 1000000 ∧
  (c < 0 ∨ (ls.length : Nat) < c ∨ ∃ b, v = some b ∧ (b < 0 ∨ 255 < b)) ∧ ∀ H', Same H H' → Q (.bl true) H'
theorem ok__law_refused (T : Env K mg) : FnOk P w K mg base (L2.CX P w) 3 T.a__law_refused T.d__law_refused ["disk", "count", "byte"] (sp__law_refused T) := by
  refine T.F__law_refused.okX sc__law_refused (fun vs H Q E h => by obtain ⟨_, _, _, _, _, _, _, rfl, _⟩ := h; rfl) (fun cdv A outer s H vs Q E hr h => ?_)
  obtain ⟨a, k, l, ks, ls, c, v, rfl, hD, hlen, hbad, h1⟩ := h
  obtain ⟨dx, ha⟩ := hD.at_
  have hu64 := hu64_of hr
  have G_Disk_crash := ok_Disk_crash (P := P) (w := w) (base := base) T
  refine ⟨_, (pss_cons (ps_try_only rfl rfl ⟨rfl, by decide, .inl T.e_BadArgument.gC⟩ takes0 (fun W pn xe tk po => (pss_one (ps_expr (pe_mK0 (pv 0) T.k_Disk.cl T.m_Disk_crash G_Disk_crash (hr.mono (by decide)) T.K_Disk_crash (fun σ => passAt tk σ) (pk_cons (pv 1) (pk_cons (pv 2) pk_nil)))))) (fun a oe cls d pn hz hf => (pss_one (ps_ret pe_bl))))
      (pss_one (ps_ret pe_bl))), ?_⟩
  refine ⟨_, rfl, a, dx, _, rfl, ha, dkf_no _ _ (by decide +kernel) (by decide +kernel), _, rfl, _, rfl, rfl, rfl, a, k, l, ks, ls, c, v, rfl, hD, hlen, fun b1 b2 b3 => absurd hbad ?_, fun _ => ⟨true, T.u_BadArgument_BadArgument, fun _ y _ => h1 _ (Same.refl H), fun q => Bool.noConfusion q⟩⟩
  rintro (q | q | ⟨b, q, q2⟩)
  · omega
  · omega
  · have := b3 b q
    omega
def sp__law_stands (T : Env K mg) : Sp := fun vs H Q E => ∃ (a k l ps pq pb : Addr) (ks ls : List Int) (bs : List (List Int)), vs = [.ref a, .ref ps, .ref pq, .ref pb] ∧ Dk T H a k l ks ls ∧ ks.length + ls.length ≤ 900000 ∧ Li H ps ks ∧ Li H pq ls ∧
  Dp K H (.ref pb) (dBlks bs) ∧ (decFs (ks ++ ls)).1 = bs ∧ ∀ H', Same H H' → Q (.bl true) H'
theorem ok__law_stands (T : Env K mg) : FnOk P w K mg base (L2.CX P w) 8 T.a__law_stands T.d__law_stands ["disk", "safe", "waiting", "blocks"] (sp__law_stands T) := by
  refine T.F__law_stands.okX sc__law_stands (fun vs H Q E h => by obtain ⟨_, _, _, _, _, _, _, _, _, rfl, _⟩ := h; rfl) (fun cdv A outer s H vs Q E hr h => ?_)
  obtain ⟨a, k, l, ps, pq, pb, ks, ls, bs, rfl, hD, hlen, hps, hpq, hpb, hbs, h1⟩ := h
  obtain ⟨dx, ha⟩ := hD.at_
  have hu64 := hu64_of hr
  have G_Disk_kept := ok_Disk_kept (P := P) (w := w) (base := base) T
  have G_Disk_frames := ok_Disk_frames (P := P) (w := w) (base := base) T
  have G_Disk_loose := ok_Disk_loose (P := P) (w := w) (base := base) T
  have G_Disk_size := ok_Disk_size (P := P) (w := w) (base := base) T
  refine ⟨_, (pss_cons (ps_if (PW.pt (pw_or (pt_cmpR (op_neD hu64) (pe_meth0 (pv 0) T.k_Disk.cl T.m_Disk_kept G_Disk_kept (hr.mono (by decide)) T.b_Disk_kept .nil passL) (pv 1) (nomark _)) (pw_or (pt_cmpR (op_neD hu64) (pe_meth0 (pv 0) T.k_Disk.cl T.m_Disk_loose G_Disk_loose (hr.mono (by decide)) T.b_Disk_loose .nil passL) (pv 2) (nomark _)) (pw_or1 (pt_cmpR op_ne (pe_prop (pv 0) T.k_Disk.cl T.m_Disk_size G_Disk_size (hr.mono (by decide)) T.b_Disk_size .nil passL rfl) (pe_op op_add (pe_callB call_len (by rfl) T.z_len (by decide +kernel) (pa_cons (pv 1) pa_nil)) (pe_callB call_len (by rfl) T.z_len (by decide +kernel) (pa_cons (pv 2) pa_nil))) (nomark _)))))) (pss_one (ps_ret pe_bl)) pss_nil)
      (pss_cons (ps_set (i := 4) sc__law_stands.nd rfl (Or.inl rfl) (pe_meth0 (pv 0) T.k_Disk.cl T.m_Disk_kept G_Disk_kept (hr.mono (by decide)) T.b_Disk_kept .nil passL))
      (pss_cons (ps_expr (pe_bm PySem.F.plainAttrs_list PySem.F.slot_list_append PySem.F.type_list_append mt_append (pv 4) (pa_cons pe_int pa_nil)))
      (pss_cons (ps_set (i := 5) sc__law_stands.nd rfl (Or.inl rfl) (pe_meth0 (pv 0) T.k_Disk.cl T.m_Disk_frames G_Disk_frames (hr.mono (by decide)) T.b_Disk_frames .nil passL))
      (pss_one (ps_ret (pe_and (pe_cmpR (op_eqD hu64) (pe_meth0 (pv 0) T.k_Disk.cl T.m_Disk_kept G_Disk_kept (hr.mono (by decide)) T.b_Disk_kept .nil passL) (pv 1) (nomark _)) (pe_and (pe_callB call_isi (by rfl) T.z_isinstance (by decide +kernel) (pa_cons (pv 5) (pa_cons (pe_bltn (v := .ty "list") (by rfl) T.z_list (by decide +kernel) rfl) pa_nil))) (pe_one (pe_cmpR (op_eqD hu64) (pv 5) (pv 3) (nomark _))))))))))), ?_⟩
  have no : ∀ {m : Str}, ¬ m = "_loose" → ¬ m = "_kept" → (dkf k l).lookup m = none := fun e1 e2 => dkf_no k l e1 e2
  refine ⟨_, rfl, a, dx, _, rfl, ha, no (by decide +kernel) (by decide +kernel), a, k, l, ks, ls, rfl, hD, fun q1 H1 s1 n1 hq1 => ?_⟩
  refine ⟨_, rfl, _, _, dp_ints (SqL.of hq1), dp_ints (SqL.of (s1 _ _ hps)), shaped_dInts _, shaped_dInts _, _, rfl, ifF (by rw [eqv_dInts]; simp) ?_⟩
  refine ⟨_, rfl, a, dx, _, rfl, s1 _ _ ha, no (by decide +kernel) (by decide +kernel), a, k, l, ks, ls, rfl, hD.same s1, fun q2 H2 s2 n2 hq2 => ?_⟩
  have s12 := s1.trans s2
  refine ⟨_, rfl, _, _, dp_ints (SqL.of hq2), dp_ints (SqL.of (s12 _ _ hpq)), shaped_dInts _, shaped_dInts _, _, rfl, ifF (by rw [eqv_dInts]; simp) ?_⟩
  refine ⟨_, rfl, a, dx, _, rfl, s12 _ _ ha, a, k, l, ks, ls, rfl, hD.same s12, ?_⟩
  refine ⟨_, rfl, _, _, rfl, .inl ⟨_, SqL.of (s12 _ _ hps), rfl⟩, _, rfl, _, _, rfl, .inl ⟨_, SqL.of (s12 _ _ hpq), rfl⟩, _, _, rfl, rfl, rfl, _, rfl, ifF (by rw [List.length_map, List.length_map]; simp) ?_⟩
  refine ⟨_, rfl, a, dx, _, rfl, s12 _ _ ha, no (by decide +kernel) (by decide +kernel), a, k, l, ks, ls, rfl, hD.same s12, fun q3 H3 s3 n3 hq3 => ?_⟩
  have s13 := s12.trans s3
  refine ⟨_, rfl, .inl ⟨rfl, _, SqL.of hq3⟩, q3, _, _, rfl, rfl, hq3, szl (by rw [List.length_map]; omega), ?_⟩
  have s14 : Same H (upd H3 q3 (.lst (ks.map V.int ++ [V.int 0]))) := same_mut s13 (s12.free n3)
  generalize upd H3 q3 (.lst (ks.map V.int ++ [V.int 0])) = H4 at s14
  refine ⟨_, rfl, a, dx, _, rfl, s14 _ _ ha, no (by decide +kernel) (by decide +kernel), a, k, l, ks, ls, rfl, hD.same s14, by omega, fun f as H5 s5 nf hB => ?_⟩
  have s15 := s14.trans s5
  refine ⟨_, rfl, a, dx, _, rfl, s15 _ _ ha, no (by decide +kernel) (by decide +kernel), a, k, l, ks, ls, rfl, hD.same s15, fun q6 H6 s6 n6 hq6 => ?_⟩
  have s16 := s15.trans s6
  refine ⟨_, rfl, _, _, dp_ints (SqL.of hq6), dp_ints (SqL.of (s16 _ _ hps)), shaped_dInts _, shaped_dInts _, _, rfl, ?_⟩
  rw [eqv_dInts, decide_eq_true rfl]
  refine iteT ?_
  have hB6 := hB.same s6
  refine ⟨_, rfl, _, _, _, _, _, rfl, .ty _, .base (.lst hB6.at_), kit_ty (b := "list") (r := true) (by decide +kernel), _, rfl, iteT ?_⟩
  refine ⟨_, rfl, _, rfl, _, _, hB6.dp, same_dp s16 _ _ hpb, shaped_dBlks _, shaped_dBlks _, ?_⟩
  rw [eqv_dBlks, decide_eq_true hbs]
  exact h1 _ s16
def sp__law_survivors (T : Env K mg) : Sp := fun vs H Q E => ∃ (p : Addr) (as : List Addr) (bs : List (List Int)) (c : Int) (t : Bool), vs = [.ref p, .int c, .bl t] ∧ Blk H p as bs ∧ bs.length ≤ 100 ∧ (∀ b ∈ bs, b.length ≤ 200) ∧
  ∀ q asL H', Same H H' → H q = none → Blk H' q asL (surv bs c t) → (∀ x ∈ asL, x ∈ as) → Q (.ref q) H'
theorem ok__law_survivors (T : Env K mg) : FnOk P w K mg base (L2.CX P w) 5 T.a__law_survivors T.d__law_survivors ["written", "count", "torn"] (sp__law_survivors T) := by
  refine T.F__law_survivors.okX sc__law_survivors (fun vs H Q E h => by obtain ⟨_, _, _, _, _, rfl, _⟩ := h; rfl) (fun cdv A outer s H vs Q E hr h => ?_)
  obtain ⟨p, as, bs, c, t, rfl, hB, hbl, hbm, h1⟩ := h
  have hu64 := hu64_of hr
  have G__law_frame := ok__law_frame (P := P) (w := w) (base := base) T
  refine ⟨_, (pss_cons (ps_set (i := 3) sc__law_survivors.nd rfl (Or.inl rfl) (pe_lst pa_nil))
      (pss_cons (ps_for (passes_of rfl) rfl (pi_list (pv 0)) (pg_name (i := 4) sc__law_survivors.nd rfl (Or.inl rfl)) (pss_cons (ps_set (i := 1) sc__law_survivors.nd rfl (Or.inl rfl) (pe_op op_sub (pv 1) (pe_callB call_len (by rfl) T.z_len (by decide +kernel) (pa_cons (pe_call G__law_frame (hr.mono (by decide)) rfl T.g__law_frame T.F__law_frame.kp T.b__law_frame .nil passL (pa_cons (pv 4) pa_nil)) pa_nil))))
      (pss_cons (ps_if (PW.pt (pw_or (pt_cmpR op_lt (pv 1) pe_int (nomark _)) (pw_or1 (PW.pt (pw_and (pt_cmpR op_eq (pv 1) pe_int (nomark _)) (pw_and1 (pt_val (pv 2)))))))) (pss_one (ps_ret (pv 3))) pss_nil)
      (pss_one (ps_expr (pe_bm PySem.F.plainAttrs_list PySem.F.slot_list_append PySem.F.type_list_append mt_append (pv 3) (pa_cons (pv 4) pa_nil)))))))
      (pss_one (ps_ret (pv 3))))), ?_⟩
  refine ⟨Nat.zero_le _, fun q nq => ?_⟩
  have npq : p ≠ q := ne_of_none hB.at_ nq
  refine ⟨_, rfl, p, rfl, ⟨_, (same_new nq).seq (SqL.of hB.at_)⟩, for_list (K := K) (a := p) (xs := as.map V.ref) (fun i σ H' => ∃ c' v4 asL done, σ = [some (.ref p), some (.int c'), some (.bl t), some (.ref q), v4] ∧ Same H H' ∧ Blk H' q asL done ∧ surv bs c t = done ++ surv (bs.drop i) c' t ∧ (∀ x ∈ asL, x ∈ as) ∧ done.length ≤ i) ⟨c, none, [], [], rfl, same_new nq, Blk.nil, rfl, by simp, Nat.le_refl _⟩ (fun i σ H' _ h => by obtain ⟨_, _, _, _, _, s1, _⟩ := h; exact s1.seq (SqL.of hB.at_)) ?_ ?_⟩
  · rintro i y σ H' hi ⟨c', v4, asL, done, rfl, s1, hq, he, hsub, hdl⟩
    obtain ⟨x, hx, rfl⟩ : ∃ x, as[i]? = some x ∧ y = V.ref x := by
      rw [List.getElem?_map] at hi
      cases e : as[i]? with
      | none => rw [e] at hi; cases hi
      | some u => rw [e] at hi; exact ⟨u, rfl, (Option.some.inj hi).symm⟩
    obtain ⟨hne, b, hb, hL⟩ := hB.each i x hx
    have hbl2 := hbm b (List.mem_of_getElem? hb)
    have il : i < bs.length := (List.getElem?_eq_some_iff.mp hb).1
    have ed : bs.drop i = b :: bs.drop (i + 1) := by
      rw [List.drop_eq_getElem_cons il]
      congr 1
      exact Option.some.inj ((List.getElem?_eq_getElem il).symm.trans hb)
    rw [ed, surv_cons] at he
    refine ⟨_, rfl, _, rfl, x, b, rfl, s1 _ _ hL, by omega, fun r H2 s2 nr hr2 => ?_⟩
    have sA := s1.trans s2
    have hq2 := hq.same s2
    refine ⟨_, _, rfl, .inl ⟨_, SqL.of hr2, rfl⟩, _, _, rfl, rfl, ?_⟩
    rw [List.length_map]
    have stop : (c' - ((frame b).length : Nat) < 0 ∨ (c' - ((frame b).length : Nat) = 0 ∧ t = true)) → Q (.ref q) H2 := fun h => h1 q asL H2 sA nq (by
      rw [if_pos h, List.append_nil] at he
      rw [he]
      exact hq2) hsub
    have go : ¬ (c' - ((frame b).length : Nat) < 0 ∨ (c' - ((frame b).length : Nat) = 0 ∧ t = true)) → surv bs c t = (done ++ [b]) ++ surv (bs.drop (i + 1)) (c' - ((frame b).length : Nat)) t := fun h => by
      rw [he, if_neg h, List.append_assoc]
      rfl
    have xq : x ≠ q := ne_of_none hL nq
    apply via0 (¬ (c' - ((frame b).length : Nat) < 0 ∨ (c' - ((frame b).length : Nat) = 0 ∧ t = true)))
    · intro more
      refine ⟨_, rfl, _, _, rfl, rfl, _, rfl, iteD (fun k1 => ifT rfl ⟨_, rfl, stop (.inl k1)⟩) (fun k1 => ⟨_, rfl, rfl, _, rfl, iteD (fun k2 => ?_) (fun k2 => ?_)⟩)⟩
      · have k2 : c' - ((frame b).length : Nat) = 0 := V.int.inj k2
        refine ⟨_, rfl, t, rfl, ?_⟩
        by_cases ht : t = true
        · exact ifT ht ⟨_, rfl, stop (.inr ⟨k2, ht⟩)⟩
        · exact ifF (by simpa using ht) (more fun h => h.elim k1 fun h => ht h.2)
      · have k2 : ¬ c' - ((frame b).length : Nat) = 0 := fun e => k2 (congrArg V.int e)
        exact ifF rfl (more fun h => h.elim k1 fun h => k2 h.1)
    · intro h
      refine ⟨_, rfl, .inl ⟨rfl, _, SqL.of hq2.at_⟩, _, rfl, q, _, _, rfl, rfl, hq2.at_, szl (by rw [List.length_map, hq2.len]; omega), _, _, asL ++ [x], done ++ [b], rfl, same_mut sA nq, hq2.push (sA _ _ hL) xq, go h, (fun y hy => ?_), by rw [List.length_append]; show done.length + 1 ≤ i + 1; omega⟩
      rcases List.mem_append.mp hy with e | e
      · exact hsub y e
      · have : y = x := by simpa using e
        rw [this]
        exact List.mem_of_getElem? hx
  · rintro σ H' ⟨c', v4, asL, done, rfl, s1, hq, he, hsub, hdl⟩
    rw [List.length_map, hB.len, List.drop_length] at he
    exact ⟨_, rfl, h1 q asL H' s1 nq (by rw [he]; show Blk _ _ _ (done ++ []); rw [List.append_nil]; exact hq) hsub⟩

--PART /work/steering/wip/parts/k09b.lean
/-! the law -/
theorem encB_app (bs cs : List (List Int)) : encB (bs ++ cs) = encB bs ++ encB cs := by simp [encB]
theorem encB_le : ∀ bs : List (List Int), (∀ b ∈ bs, b.length ≤ 150) → (encB bs).length ≤ 300 * bs.length
  | [], _ => Nat.le_refl _
  | b :: r, h => by
    have h1 := h b (by simp)
    have h2 := encB_le r fun x hx => h x (by simp [hx])
    have h3 := vint_len100 (len_NB (n := b.length) (by omega))
    rw [encB_cons, List.length_append, frame_len, List.length_cons]
    omega
theorem via2 {G : Prop} {R : L2.St → Hp → Prop} (A : L2.St → Hp → Prop) (k : (∀ σ H1, A σ H1 → R σ H1) → G) (fin : ∀ σ H1, A σ H1 → R σ H1) : G := k fin
theorem Blk.to {H H' : Hp} {p : Addr} {as : List Addr} {bs : List (List Int)} (h : Blk H p as bs) (f : ∀ x o, H x = some o → (x = p ∨ x ∈ as) → H' x = some o) : Blk H' p as bs :=
  ⟨f _ _ h.at_ (.inl rfl), h.len, fun j a hj => by
    obtain ⟨h1, b, h2, h3⟩ := h.each j a hj
    exact ⟨h1, b, h2, f _ _ h3 (.inr (List.mem_of_getElem? hj))⟩⟩
theorem Blk.live {H : Hp} {p : Addr} {as : List Addr} {bs : List (List Int)} (h : Blk H p as bs) {x : Addr} (hx : x ∈ as) : ∃ b, b ∈ bs ∧ Li H x b := by
  obtain ⟨j, hj⟩ := List.getElem?_of_mem hx
  obtain ⟨_, b, h2, h3⟩ := h.each j x hj
  exact ⟨b, List.mem_of_getElem? h2, h3⟩
theorem Blk.cat {H : Hp} {p q r : Addr} {as cs : List Addr} {bs ds : List (List Int)} (h : Blk H p as bs) (g : Blk H q cs ds) (n : H r = none) : Blk (upd H r (.lst (as.map V.ref ++ cs.map V.ref))) r (as ++ cs) (bs ++ ds) := by
  have s := same_new (o := .lst (as.map V.ref ++ cs.map V.ref)) n
  refine ⟨by rw [upd_same, List.map_append], by rw [List.length_append, List.length_append, h.len, g.len], fun j a hj => ?_⟩
  by_cases k : j < as.length
  · rw [List.getElem?_append_left k] at hj
    obtain ⟨_, b, h2, h3⟩ := h.each j a hj
    exact ⟨ne_of_none h3 n, b, by rw [List.getElem?_append_left (by rw [← h.len]; exact k)]; exact h2, s _ _ h3⟩
  · rw [List.getElem?_append_right (by omega)] at hj
    obtain ⟨_, b, h2, h3⟩ := g.each _ a hj
    exact ⟨ne_of_none h3 n, b, by rw [List.getElem?_append_right (by rw [← h.len]; omega), ← h.len]; exact h2, s _ _ h3⟩
theorem Dk.ot_new {T : Env K mg} {H : Hp} {a k l x : Addr} {ks ls : List Int} (h : Dk T H a k l ks ls) (n : H x = none) : Ot a k l x := by
  obtain ⟨dx, h1⟩ := h.at_
  exact ⟨(ne_of_none h1 n).symm, (ne_of_none h.hk n).symm, (ne_of_none h.hl n).symm⟩
theorem Dk.put {T : Env K mg} {H : Hp} {a k l x : Addr} {o : HO} {ks ls : List Int} (h : Dk T H a k l ks ls) (n : Ot a k l x) : Dk T (L2.upd H x o) a k l ks ls :=
  ⟨by obtain ⟨dx, h1⟩ := h.at_; exact ⟨dx, by rw [upd_ne n.1.symm]; exact h1⟩, by show L2.upd _ _ _ _ = _; rw [upd_ne n.2.1.symm]; exact h.hk, by show L2.upd _ _ _ _ = _; rw [upd_ne n.2.2.symm]; exact h.hl, h.ne⟩
/-- the law's side: safe bytes at ps, synced blocks at py -/
structure Ow (H : Hp) (d k l ps py : Addr) (aY : List Addr) (S : List Int) (sy : List (List Int)) : Prop where
  hs : Li H ps S
  hy : Blk H py aY sy
  ot : ∀ x, x = ps ∨ x = py ∨ x ∈ aY → Ot d k l x
theorem Ow.same {H H' : Hp} {d k l ps py : Addr} {aY : List Addr} {S : List Int} {sy : List (List Int)} (h : Ow H d k l ps py aY S sy) (s : Same H H') : Ow H' d k l ps py aY S sy := ⟨s _ _ h.hs, h.hy.same s, h.ot⟩
theorem Ow.kp {H H' : Hp} {d k l k' l' ps py : Addr} {aY : List Addr} {S : List Int} {sy : List (List Int)} (h : Ow H d k l ps py aY S sy) (c : Kp H H' d k l k' l') : Ow H' d k' l' ps py aY S sy :=
  ⟨(c _ _ h.hs (h.ot _ (.inl rfl))).1, h.hy.to fun x o e hx => (c x o e (h.ot _ (.inr hx))).1, fun x hx => by
    rcases hx with rfl | rfl | hx
    · exact (c _ _ h.hs (h.ot _ (.inl rfl))).2
    · exact (c _ _ h.hy.at_ (h.ot _ (.inr (.inl rfl)))).2
    · obtain ⟨b, _, h2⟩ := h.hy.live hx
      exact (c _ _ h2 (h.ot _ (.inr (.inr hx)))).2⟩
theorem Ow.ne {H : Hp} {d k l ps py x : Addr} {aY : List Addr} {S : List Int} {sy : List (List Int)} (h : Ow H d k l ps py aY S sy) (n : H x = none) : ∀ y, y = ps ∨ y = py ∨ y ∈ aY → y ≠ x := by
  intro y hy
  rcases hy with rfl | rfl | hy
  · exact ne_of_none h.hs n
  · exact ne_of_none h.hy.at_ n
  · obtain ⟨b, _, h2⟩ := h.hy.live hy
    exact ne_of_none h2 n
theorem Ow.put {H : Hp} {d k l ps py x : Addr} {o : HO} {aY : List Addr} {S : List Int} {sy : List (List Int)} (h : Ow H d k l ps py aY S sy) (n : ∀ y, y = ps ∨ y = py ∨ y ∈ aY → y ≠ x) : Ow (L2.upd H x o) d k l ps py aY S sy :=
  ⟨by show L2.upd _ _ _ _ = _; rw [upd_ne (n _ (.inl rfl))]; exact h.hs, h.hy.to fun y u e hy => by rw [upd_ne (n _ (.inr hy))]; exact e, h.ot⟩
/-- the parts of the disk are newer than the law's own world -/
structure Nw (H0 H : Hp) (d k l : Addr) : Prop where
  sm : Same H0 H
  d : H0 d = none
  k : H0 k = none
  l : H0 l = none
theorem Nw.same {H0 H H' : Hp} {d k l : Addr} (h : Nw H0 H d k l) (s : Same H H') : Nw H0 H' d k l := ⟨h.sm.trans s, h.d, h.k, h.l⟩
theorem Nw.ot {H0 H : Hp} {d k l x : Addr} {o : HO} (h : Nw H0 H d k l) (e : H0 x = some o) : Ot d k l x := ⟨ne_of_none e h.d, ne_of_none e h.k, ne_of_none e h.l⟩
theorem Nw.kp {H0 H H' : Hp} {d k l k' l' : Addr} (h : Nw H0 H d k l) (c : Kp H H' d k l k' l') : Nw H0 H' d k' l' := by
  refine ⟨fun x o e => (c x o (h.sm _ _ e) (h.ot e)).1, h.d, ?_, ?_⟩
  · cases e : H0 k' with
    | none => rfl
    | some o => exact absurd rfl (c _ o (h.sm _ _ e) (h.ot e)).2.2.1
  · cases e : H0 l' with
    | none => rfl
    | some o => exact absurd rfl (c _ o (h.sm _ _ e) (h.ot e)).2.2.2
def Byt (bs : List (List Int)) : Prop := ∀ b ∈ bs, b.length ≤ 150 ∧ ∀ x ∈ b, 0 ≤ x ∧ x < 256
/-- between two rounds -/
structure Rd (T : Env K mg) (H0 H : Hp) (d k l ps py pw pq : Addr) (aY aW : List Addr) (sy wr : List (List Int)) (n : Nat) : Prop where
  nw : Nw H0 H d k l
  dk : Dk T H d k l (encB sy) (encB wr)
  ow : Ow H d k l ps py aY (encB sy) sy
  hw : Blk H pw aW wr
  hq : Li H pq (encB wr)
  ot : ∀ x, x = pw ∨ x = pq ∨ x ∈ aW → Ot d k l x
  w0 : H0 pw = none
  wn : ∀ x, (x = ps ∨ x = py ∨ x ∈ aY) ∨ x = pq → x ≠ pw
  len : sy.length + wr.length ≤ n
  by_ : Byt sy
  bw : Byt wr
theorem Rd.same {T : Env K mg} {H0 H H' : Hp} {d k l ps py pw pq : Addr} {aY aW : List Addr} {sy wr : List (List Int)} {n : Nat} (h : Rd T H0 H d k l ps py pw pq aY aW sy wr n) (s : Same H H') : Rd T H0 H' d k l ps py pw pq aY aW sy wr n :=
  ⟨h.nw.same s, h.dk.same s, h.ow.same s, h.hw.same s, s _ _ h.hq, h.ot, h.w0, h.wn, h.len, h.by_, h.bw⟩
theorem encB_byte {bs : List (List Int)} (h : Byt bs) : ∀ x ∈ encB bs, 0 ≤ x ∧ x < 256 := by
  intro x hx
  unfold encB at hx
  obtain ⟨f, hf, hx⟩ := List.mem_flatten.mp hx
  obtain ⟨b, hb, rfl⟩ := List.mem_map.mp hf
  obtain ⟨h1, h2⟩ := h b hb
  unfold frame at hx
  rcases List.mem_append.mp hx with e | e
  · exact vint_byte_NB (len_NB (n := b.length) (by omega)) (by omega) x e
  · exact sealed_mem h2 x e
theorem sav_len {W : List Int} {n : Nat} {v : Option Int} (h : n ≤ W.length) : (sav W n v).length = n := by
  cases v with
  | none => show (W.take n).length = _; rw [List.length_take]; omega
  | some b => show ((W.take n).set _ _).length = _; rw [List.length_set, List.length_take]; omega
theorem sav_get {W : List Int} {n : Nat} {v : Option Int} {j : Nat} (h : j + 1 < n) : (sav W n v)[j]? = W[j]? := by
  cases v with
  | none => show (W.take n)[j]? = _; rw [List.getElem?_take, if_pos (by omega)]
  | some b => show ((W.take n).set _ _)[j]? = _; rw [List.getElem?_set_ne (by omega), List.getElem?_take, if_pos (by omega)]
theorem sav_byte {W : List Int} {n : Nat} {v : Option Int} (h : ∀ x ∈ W, 0 ≤ x ∧ x < 256) (hv : ∀ b, v = some b → 0 ≤ b ∧ b ≤ 255) : ∀ x ∈ sav W n v, 0 ≤ x ∧ x < 256 := by
  intro x hx
  cases v with
  | none => exact h x (List.mem_of_mem_take hx)
  | some b =>
    rcases List.mem_or_eq_of_mem_set hx with e | e
    · exact h x (List.mem_of_mem_take e)
    · have := hv b rfl
      omega
theorem torn_none {W : List Int} {n : Nat} {v : Option Int} (e : v = none) : decide (sav W n v ≠ W.take n) = false := by
  rw [e]
  exact decide_eq_false fun h => h rfl
theorem torn_zero {W : List Int} {n : Nat} {v : Option Int} {b : Int} (e : v = some b) (h : n = 0) : decide (sav W n v ≠ W.take n) = false := by
  rw [e, h]
  exact decide_eq_false fun h => h rfl
theorem torn_some {W : List Int} {n : Nat} {v : Option Int} {b x : Int} (e : v = some b) (h : 0 < n) (hn : n ≤ W.length) (hx : W[n - 1]? = some x) : decide (sav W n v ≠ W.take n) = !decide (V.int x = V.int b) := by
  rw [e]
  have h1 : (W.take n)[n - 1]? = some x := by rw [List.getElem?_take, if_pos (by omega), hx]
  by_cases c : x = b
  · rw [decide_eq_true (congrArg V.int c)]
    refine decide_eq_false fun q => q ?_
    show (W.take n).set (n - 1) b = _
    apply List.ext_getElem?
    intro j
    by_cases hj : j = n - 1
    · subst hj
      rw [List.getElem?_set_self (by rw [List.length_take]; omega), h1, c]
    · rw [List.getElem?_set_ne (fun q => hj q.symm)]
  · rw [decide_eq_false (fun q => c (V.int.inj q))]
    refine decide_eq_true fun q => c ?_
    have q : (W.take n).set (n - 1) b = W.take n := q
    rw [← q, List.getElem?_set_self (by rw [List.length_take]; omega)] at h1
    exact (Option.some.inj h1).symm
def spLaw (K : PySem.W.Frag) : Sp := fun vs H Q _ => ∃ (a : Addr) (ns : List Int), vs = [.ref a] ∧ SqL K H a (ns.map V.int) ∧ ns.length ≤ 63 ∧ ∀ H', Q (.bl true) H'
def sp_law (T : Env K mg) : Sp := spLaw K
theorem ok_law (T : Env K mg) : FnOk P w K mg base CX0 10 T.a_law T.d_law ["script"] (sp_law T) := by
  refine T.F_law.ok sc_law (fun vs H Q E h => by obtain ⟨_, _, rfl, _⟩ := h; rfl) (fun cdv A outer s H vs Q E hr h => ?_)
  obtain ⟨a, ns, rfl, hS, hlen, h1⟩ := h
  have hu64 := hu64_of hr
  have G_Disk_init := ok_Disk_init (P := P) (w := w) (base := base) T
  have G_Disk_crash := ok_Disk_crash (P := P) (w := w) (base := base) T
  have G__law_cell := ok__law_cell (P := P) (w := w) (base := base) T
  have G_Disk_frames := ok_Disk_frames (P := P) (w := w) (base := base) T
  have G__law_block := ok__law_block (P := P) (w := w) (base := base) T
  have G_Disk_write := ok_Disk_write (P := P) (w := w) (base := base) T
  have G_Disk_sync := ok_Disk_sync (P := P) (w := w) (base := base) T
  have G_Disk_mend := ok_Disk_mend (P := P) (w := w) (base := base) T
  have G__law_stands := ok__law_stands (P := P) (w := w) (base := base) T
  have G__law_frame := ok__law_frame (P := P) (w := w) (base := base) T
  have G__law_survivors := ok__law_survivors (P := P) (w := w) (base := base) T
  have G__law_refused := ok__law_refused (P := P) (w := w) (base := base) T
  have G_Disk_kept := ok_Disk_kept (P := P) (w := w) (base := base) T
  have G_Disk_loose := ok_Disk_loose (P := P) (w := w) (base := base) T
  refine ⟨_, (pss_cons (ps_set (i := 1) sc_law.nd rfl (Or.inl rfl) (pe_make0 T.M_Disk G_Disk_init (hr.mono (by decide)) rfl T.k_Disk.mgC T.b_Disk_init .nil passL))
      (pss_cons (ps_set (i := 2) sc_law.nd rfl (Or.inl rfl) (pe_lst pa_nil))
      (pss_cons (ps_set (i := 3) sc_law.nd rfl (Or.inl rfl) (pe_lst pa_nil))
      (pss_cons (ps_set (i := 4) sc_law.nd rfl (Or.inl rfl) (pe_lst pa_nil))
      (pss_cons (ps_set (i := 5) sc_law.nd rfl (Or.inl rfl) (pe_lst pa_nil))
      (pss_cons (ps_for PassesOwn.never rfl (pi_range1 rfl T.z_range (pa_cons (pe_callB (call_min2 rfl) (by rfl) T.z_min (by decide +kernel) (pa_cons pe_int (pa_cons (pe_callB call_len (by rfl) T.z_len (by decide +kernel) (pa_cons (pv 0) pa_nil)) pa_nil))) pa_nil)) (pg_name (i := 6) sc_law.nd rfl (Or.inl rfl)) (pss_cons (ps_set (i := 7) sc_law.nd rfl (Or.inl rfl) (pe_call G__law_cell (hr.mono (by decide)) rfl T.g__law_cell T.F__law_cell.kp T.b__law_cell .nil passL (pa_cons (pv 0) (pa_cons (pv 6) pa_nil))))
      (pss_cons (ps_set (i := 8) sc_law.nd rfl (Or.inl rfl) (pe_op op_mod (pe_callTy call_int1 (by rfl) T.z_int (by decide +kernel) (pa_cons (pv 7) pa_nil)) pe_int))
      (pss_cons (ps_set (i := 7) sc_law.nd rfl (Or.inl rfl) (pe_op op_fdiv (pv 7) pe_int))
      (pss_cons (ps_if (pt_cmpR op_lt (pv 8) pe_int (nomark _)) (pss_cons (ps_set (i := 9) sc_law.nd rfl (Or.inl rfl) (pe_call G__law_block (hr.mono (by decide)) rfl T.g__law_block T.F__law_block.kp T.b__law_block .nil passL (pa_cons (pe_op op_fdiv (pv 7) pe_int) (pa_cons (pe_ix ix_list (pe_lst (pa_cons (pe_op op_mod (pe_callTy call_int1 (by rfl) T.z_int (by decide +kernel) (pa_cons (pv 7) pa_nil)) pe_int) (pa_cons pe_int pa_nil))) (pe_callTy call_int1 (by rfl) T.z_int (by decide +kernel) (pa_cons (pe_cmpR op_eq (pe_op op_mod (pe_callTy call_int1 (by rfl) T.z_int (by decide +kernel) (pa_cons (pv 7) pa_nil)) pe_int) pe_int (nomark _)) pa_nil)) (fun _ _ => rfl)) pa_nil))))
      (pss_cons (ps_expr (pe_meth (pv 1) T.k_Disk.cl T.m_Disk_write G_Disk_write (hr.mono (by decide)) T.b_Disk_write .nil passL (pa_cons (pv 9) pa_nil)))
      (pss_cons (ps_expr (pe_bm PySem.F.plainAttrs_list PySem.F.slot_list_append PySem.F.type_list_append mt_append (pv 4) (pa_cons (pe_callTy call_list_of (by rfl) T.z_list (by decide +kernel) (pa_cons (pv 9) pa_nil)) pa_nil)))
      (pss_cons (ps_set (i := 5) sc_law.nd rfl (Or.inl rfl) (pe_op op_cat (pv 5) (pe_call G__law_frame (hr.mono (by decide)) rfl T.g__law_frame T.F__law_frame.kp T.b__law_frame .nil passL (pa_cons (pv 9) pa_nil))))
      (pss_one (ps_expr (pe_bm PySem.F.plainAttrs_list PySem.F.slot_list_append PySem.F.type_list_append mt_append (pv 9) (pa_cons pe_int pa_nil)))))))) pss_nil)
      (pss_cons (ps_if (pt_cmpR op_eq (pv 8) pe_int (nomark _)) (pss_cons (ps_expr (pe_meth0 (pv 1) T.k_Disk.cl T.m_Disk_sync G_Disk_sync (hr.mono (by decide)) T.b_Disk_sync .nil passL))
      (pss_cons (ps_set (i := 2) sc_law.nd rfl (Or.inl rfl) (pe_op op_cat (pv 2) (pv 5)))
      (pss_one (ps_set (i := 3) sc_law.nd rfl (Or.inl rfl) (pe_op op_cat (pv 3) (pv 4)))))) pss_nil)
      (pss_cons (ps_if (pt_cmpR op_gt (pv 8) pe_int (nomark _)) (pss_cons (ps_set (i := 10) sc_law.nd rfl (Or.inl rfl) (pe_ix ix_list (pe_lst (pa_cons (pe_callB call_len (by rfl) T.z_len (by decide +kernel) (pa_cons (pv 5) pa_nil)) (pa_cons (pe_op op_mod (pe_callTy call_int1 (by rfl) T.z_int (by decide +kernel) (pa_cons (pv 7) pa_nil)) (pe_op op_add (pe_callB call_len (by rfl) T.z_len (by decide +kernel) (pa_cons (pv 5) pa_nil)) pe_int)) pa_nil))) (pe_op op_sub (pv 8) pe_int) (fun _ _ => rfl)))
      (pss_cons (ps_set (i := 11) sc_law.nd rfl (Or.inl rfl) (pe_ix ix_list (pe_lst (pa_cons pe_non (pa_cons (pe_op op_mod (pe_op op_fdiv (pv 7) pe_int) pe_int) pa_nil))) (pe_op op_mod (pe_op op_fdiv (pv 7) pe_int) pe_int) (fun _ _ => rfl)))
      (pss_cons (ps_if (PW.pt (pw_or (pt_not (pt_val (pe_call G__law_refused (hr.mono (by decide)) rfl T.g__law_refused T.F__law_refused.kp T.b__law_refused .nil passL (pa_cons (pv 1) (pa_cons (pe_op op_sub (pe_un un_neg pe_int) (pe_op op_mod (pe_callTy call_int1 (by rfl) T.z_int (by decide +kernel) (pa_cons (pv 7) pa_nil)) pe_int)) (pa_cons pe_non pa_nil)))))) (pw_or1 (pt_not (pt_val (pe_call G__law_refused (hr.mono (by decide)) rfl T.g__law_refused T.F__law_refused.kp T.b__law_refused .nil passL (pa_cons (pv 1) (pa_cons (pe_op op_add (pe_callB call_len (by rfl) T.z_len (by decide +kernel) (pa_cons (pv 5) pa_nil)) pe_int) (pa_cons (pv 11) pa_nil))))))))) (pss_one (ps_ret pe_bl)) pss_nil)
      (pss_cons (ps_if (PW.pt (pw_or (pt_not (pt_val (pe_call G__law_refused (hr.mono (by decide)) rfl T.g__law_refused T.F__law_refused.kp T.b__law_refused .nil passL (pa_cons (pv 1) (pa_cons (pv 10) (pa_cons (pe_op op_add pe_int (pe_op op_mod (pe_callTy call_int1 (by rfl) T.z_int (by decide +kernel) (pa_cons (pv 7) pa_nil)) pe_int)) pa_nil)))))) (pw_or1 (pt_not (pt_val (pe_call G__law_refused (hr.mono (by decide)) rfl T.g__law_refused T.F__law_refused.kp T.b__law_refused .nil passL (pa_cons (pv 1) (pa_cons (pv 10) (pa_cons (pe_un un_neg pe_int) pa_nil))))))))) (pss_one (ps_ret pe_bl)) pss_nil)
      (pss_cons (ps_set (i := 12) sc_law.nd rfl (Or.inl rfl) (pe_and (pe_cmpR op_notN (pv 11) pe_non (nomark _)) (pe_and (pe_cmpR op_gt (pv 10) pe_int (nomark _)) (pe_one (pe_cmpR op_ne (pe_ix ix_list (pv 5) (pe_op op_sub (pv 10) pe_int) (fun _ _ => rfl)) (pv 11) (nomark _))))))
      (pss_cons (ps_expr (pe_mK0 (pv 1) T.k_Disk.cl T.m_Disk_crash G_Disk_crash (hr.mono (by decide)) T.K_Disk_crash (fun σ => passAll σ) (pk_cons (pv 10) (pk_cons (pv 11) pk_nil))))
      (pss_cons (ps_set (i := 13) sc_law.nd rfl (Or.inl rfl) (pe_slice sl_list (pv 5) po_none (po_some (pv 10))))
      (pss_cons (ps_if (PW.pt (pw_and (pt_cmpR op_notN (pv 11) pe_non (nomark _)) (pw_and1 (pt_cmpR op_gt (pv 10) pe_int (nomark _))))) (pss_one (ps_asg (pv 11) (pg_sub (pv 13) (pe_op op_sub (pv 10) pe_int) set_list))) pss_nil)
      (pss_cons (ps_set (i := 3) sc_law.nd rfl (Or.inl rfl) (pe_op op_cat (pv 3) (pe_call G__law_survivors (hr.mono (by decide)) rfl T.g__law_survivors T.F__law_survivors.kp T.b__law_survivors .nil passL (pa_cons (pv 4) (pa_cons (pv 10) (pa_cons (pv 12) pa_nil))))))
      (pss_cons (ps_if (PW.pt (pw_or (pt_cmpR (op_neD hu64) (pe_meth0 (pv 1) T.k_Disk.cl T.m_Disk_kept G_Disk_kept (hr.mono (by decide)) T.b_Disk_kept .nil passL) (pe_op op_cat (pv 2) (pv 13)) (nomark _)) (pw_or (pt_cmpR (op_neD hu64) (pe_meth0 (pv 1) T.k_Disk.cl T.m_Disk_loose G_Disk_loose (hr.mono (by decide)) T.b_Disk_loose .nil passL) (pe_lst pa_nil) (nomark _)) (pw_or1 (pt_cmpR (op_neD hu64) (pe_meth0 (pv 1) T.k_Disk.cl T.m_Disk_frames G_Disk_frames (hr.mono (by decide)) T.b_Disk_frames .nil passL) (pv 3) (nomark _)))))) (pss_one (ps_ret pe_bl)) pss_nil)
      (pss_cons (ps_expr (pe_meth0 (pv 1) T.k_Disk.cl T.m_Disk_mend G_Disk_mend (hr.mono (by decide)) T.b_Disk_mend .nil passL))
      (pss_cons (ps_set (i := 2) sc_law.nd rfl (Or.inl rfl) (pe_lst pa_nil))
      (pss_one (ps_for PassesOwn.never rfl (pi_list (pv 3)) (pg_name (i := 9) sc_law.nd rfl (Or.inl rfl)) (pss_one (ps_set (i := 2) sc_law.nd rfl (Or.inl rfl) (pe_op op_cat (pv 2) (pe_call G__law_frame (hr.mono (by decide)) rfl T.g__law_frame T.F__law_frame.kp T.b__law_frame .nil passL (pa_cons (pv 9) pa_nil))))))))))))))))))) pss_nil)
      (pss_cons (ps_if (pt_cmpR op_gt (pv 8) pe_int (nomark _)) (pss_cons (ps_set (i := 4) sc_law.nd rfl (Or.inl rfl) (pe_lst pa_nil))
      (pss_one (ps_set (i := 5) sc_law.nd rfl (Or.inl rfl) (pe_lst pa_nil)))) pss_nil)
      (pss_one (ps_if (pt_not (pt_val (pe_call G__law_stands (hr.mono (by decide)) rfl T.g__law_stands T.F__law_stands.kp T.b__law_stands .nil passL (pa_cons (pv 1) (pa_cons (pv 2) (pa_cons (pv 5) (pa_cons (pe_op op_cat (pv 3) (pv 4)) pa_nil))))))) (pss_one (ps_ret pe_bl)) pss_nil))))))))))
      (pss_cons (ps_expr (pe_mS0 (pv 1) T.k_Disk.cl T.m_Disk_crash G_Disk_crash (hr.mono (by decide)) T.b0_Disk_crash T.v0_Disk_crash (fun σ => passAll σ)))
      (pss_one (ps_ret (pe_cmpR (op_eqD hu64) (pe_meth0 (pv 1) T.k_Disk.cl T.m_Disk_frames G_Disk_frames (hr.mono (by decide)) T.b_Disk_frames .nil passL) (pv 3) (nomark _))))))))))), ?_⟩
  refine fun d dx nd ndx ndd => ⟨d, dx, rfl, upd_same, fun k l H1 nk nl hD kp => ⟨rfl, ?_⟩⟩
  have s0 : Same H (upd (upd H dx (.own d)) d (.ins T.a_Disk dx [])) := Same.made nd ndx fun b o e _ => e
  have s1 : Same H H1 := Same.made nd ndx kp
  have W1 : Nw H H1 d k l := ⟨s1, nd, s0.free nk, s0.free nl⟩
  refine ⟨Nat.zero_le _, fun ps nps => ?_⟩
  have t1 := same_new (o := .lst []) nps
  have hps : Li (upd H1 ps (.lst [])) ps [] := upd_same
  show tSeq _ _ _ _ (upd H1 ps (.lst []))
  generalize upd H1 ps (.lst []) = H2 at t1 hps
  refine ⟨Nat.zero_le _, fun py npy => ?_⟩
  have t2 := same_new (o := .lst []) npy
  have hpy : Blk (upd H2 py (.lst [])) py [] [] := Blk.nil
  show tSeq _ _ _ _ (upd H2 py (.lst []))
  generalize upd H2 py (.lst []) = H3 at t2 hpy
  refine ⟨Nat.zero_le _, fun pw npw => ?_⟩
  have t3 := same_new (o := .lst []) npw
  have hpw : Blk (upd H3 pw (.lst [])) pw [] [] := Blk.nil
  show tSeq _ _ _ _ (upd H3 pw (.lst []))
  generalize upd H3 pw (.lst []) = H4 at t3 hpw
  refine ⟨Nat.zero_le _, fun pq npq => ?_⟩
  have t4 := same_new (o := .lst []) npq
  have hpq : Li (upd H4 pq (.lst [])) pq [] := upd_same
  show tSeq _ _ _ _ (upd H4 pq (.lst []))
  generalize upd H4 pq (.lst []) = H5 at t4 hpq
  have o1 := hD.ot_new nps
  have o2 := (hD.same t1).ot_new npy
  have o3 := ((hD.same t1).same t2).ot_new npw
  have o4 := (((hD.same t1).same t2).same t3).ot_new npq
  have R0 : Rd T H H5 d k l ps py pw pq [] [] [] [] 0 := by
    refine ⟨(((W1.same t1).same t2).same t3).same t4, (((hD.same t1).same t2).same t3).same t4, ⟨t4 _ _ (t3 _ _ (t2 _ _ hps)), (hpy.same t3).same t4, ?_⟩, hpw.same t4, hpq, ?_, (s1.trans (t1.trans t2)).free npw, ?_, Nat.le_refl _, (by intro b hb; cases hb), (by intro b hb; cases hb)⟩
    · rintro x (rfl | rfl | hx)
      · exact o1
      · exact o2
      · cases hx
    · rintro x (rfl | rfl | hx)
      · exact o3
      · exact o4
      · cases hx
    · rintro x ((rfl | rfl | hx) | rfl)
      · exact ne_of_none (t2 _ _ hps) npw
      · exact ne_of_none hpy.at_ npw
      · cases hx
      · exact (ne_of_none hpw.at_ npq).symm
  have sH5 := R0.nw.sm
  refine ⟨_, rfl, _, _, rfl, .inl ⟨_, sH5.seq hS, rfl⟩, _, _, rfl, ?_⟩
  rw [List.length_map]
  obtain ⟨n, en, hn⟩ : ∃ n : Nat, (if ((ns.length : Nat) : Int) < 20 then ((ns.length : Nat) : Int) else 20) = n ∧ n ≤ 20 := by
    split
    · exact ⟨_, rfl, by omega⟩
    · exact ⟨20, rfl, Nat.le_refl _⟩
  rw [en]
  refine ⟨_, rfl, by omega, by omega, ?_⟩
  rw [Int.toNat_natCast]
  refine for_range (n := n) (fun i σ H' => ∃ d k l ps py pw pq aY aW sy wr v6 v7 v8 v9 v10 v11 v12 v13, σ = [some (.ref a), some (.ref d), some (.ref ps), some (.ref py), some (.ref pw), some (.ref pq), v6, v7, v8, v9, v10, v11, v12, v13] ∧ Rd T H H' d k l ps py pw pq aY aW sy wr i) ⟨d, k, l, ps, py, pw, pq, [], [], [], [], none, none, none, none, none, none, none, none, rfl, R0⟩ ?_ ?_
  · rintro i σ HA hi ⟨d, k, l, ps, py, pw, pq, aY, aW, sy, wr, v6, v7, v8, v9, v10, v11, v12, v13, rfl, R⟩
    refine ⟨_, rfl, _, rfl, a, ns, _, rfl, R.nw.sm.seq hS, by omega, ?_⟩
    have cn := cell_nn ns (0 + (i : Int))
    generalize cell ns (0 + (i : Int)) = z at cn
    refine ⟨_, rfl, .inl ⟨_, rfl, _, _, rfl, rfl, by show (0 : Int) < _; decide, ?_⟩⟩
    refine ⟨_, rfl, _, _, rfl, rfl, ⟨by decide, by decide⟩, ?_⟩
    have ll := R.len
    have l1 := encB_le sy fun b hb => (R.by_ b hb).1
    have l2 := encB_le wr fun b hb => (R.bw b hb).1
    apply via2 (fun σ H' => ∃ d k l ps py pw pq aY aW sy wr v6 v7 v8 v9 v10 v11 v12 v13, σ = [some (.ref a), some (.ref d), some (.ref ps), some (.ref py), some (.ref pw), some (.ref pq), v6, v7, v8, v9, v10, v11, v12, v13] ∧ Rd T H H' d k l ps py pw pq aY aW sy wr (i + 1))
    · intro fin
      by_cases hk : z % 5 < 2
      · refine ⟨_, rfl, _, _, rfl, rfl, _, rfl, ifT (decide_eq_true hk) ?_⟩
        refine ⟨_, rfl, _, _, rfl, rfl, ⟨by decide, by decide⟩, _, rfl, .inl ⟨_, rfl, _, _, rfl, rfl, by show (0 : Int) < _; decide, (by show 2 ≤ sizeLine; decide), fun p np => ?_⟩⟩
        obtain ⟨m, hm0, hm2, hidx⟩ : ∃ m : Int, 0 ≤ m ∧ m ≤ 150 ∧ atI [V.int (z / 5 % 7), V.int 150] (if decide (V.int (z / 5 % 11) = V.int 10) = true then 1 else 0) = some (V.int m) := by
          by_cases c : decide (V.int (z / 5 % 11) = V.int 10) = true
          · exact ⟨150, by decide, by decide, by rw [if_pos c]; rfl⟩
          · exact ⟨z / 5 % 7, by omega, by omega, by rw [if_neg c]; rfl⟩
        refine ⟨_, rfl, .inl ⟨_, rfl, _, _, rfl, rfl, by show (0 : Int) < _; decide, rfl, .inr ⟨_, rfl, p, _, _, _, rfl, rfl, SqL.of upd_same, hidx, ?_⟩⟩⟩
        refine ⟨_, m, rfl, hm0, by omega, fun b HB sB nb hb => ?_⟩
        have sn := same_new (o := .lst [V.int (z / 5 % 7), V.int 150]) np
        have s1 : Same HA HB := sn.trans sB
        have nb0 : HA b = none := sn.free nb
        have bl := blk_len (z / 5 / 7) m.toNat
        have bm := blk_mem (z / 5 / 7) m.toNat
        have hb : Li HB b (blk (z / 5 / 7) m.toNat) := hb
        generalize blk (z / 5 / 7) m.toNat = B at bl bm hb
        have RB := R.same s1
        obtain ⟨dx, ha⟩ := RB.dk.at_
        refine ⟨_, rfl, d, dx, _, rfl, ha, dkf_no _ _ (by decide +kernel) (by decide +kernel), _, rfl, d, k, l, b, _, _, B, rfl, RB.dk, hb, by omega, by omega, fun HC hD c => ?_⟩
        have ob := R.dk.ot_new nb0
        have hbC := (c _ _ hb ob).1
        have nwC := RB.nw.kp c
        have owC := RB.ow.kp c
        have hwC : Blk HC pw aW wr := RB.hw.to fun x o e hx => (c x o e (R.ot x (hx.elim .inl fun q => .inr (.inr q)))).1
        have hqC : Li HC pq (encB wr) := (c _ _ RB.hq (R.ot _ (.inr (.inl rfl)))).1
        have al := R.hw.len
        refine ⟨_, rfl, .inl ⟨rfl, _, SqL.of hwC.at_⟩, _, rfl, b, _, rfl, .inl (SqL.of hbC), fun b2 nb2 => ⟨pw, _, _, rfl, rfl, same_new nb2 _ _ hwC.at_, szl (by rw [List.length_map]; omega), ?_⟩⟩
        have s2 := same_new (o := .lst (B.map V.int)) nb2
        have nbw : b ≠ pw := (ne_of_none R.hw.at_ nb0).symm
        have nb2w : b2 ≠ pw := (ne_of_none hwC.at_ nb2).symm
        have nbb : b ≠ b2 := ne_of_none hbC nb2
        have hwD := (hwC.same s2).push (a := b2) (b := B) upd_same nb2w
        have owD : Ow (upd (upd HC b2 (.lst (B.map V.int))) pw (.lst (aW.map V.ref ++ [V.ref b2]))) d k l ps py aY (encB sy) sy := (owC.same s2).put fun y hy => R.wn y (.inl hy)
        have hqD : Li (upd (upd HC b2 (.lst (B.map V.int))) pw (.lst (aW.map V.ref ++ [V.ref b2]))) pq (encB wr) := by
          show upd _ _ _ _ = _
          rw [upd_ne (R.wn _ (.inr rfl))]
          exact s2 _ _ hqC
        have dkD : Dk T (upd (upd HC b2 (.lst (B.map V.int))) pw (.lst (aW.map V.ref ++ [V.ref b2]))) d k l (encB sy) (encB wr ++ frame B) := (hD.same s2).put (R.ot _ (.inl rfl))
        have nwD : Nw H (upd (upd HC b2 (.lst (B.map V.int))) pw (.lst (aW.map V.ref ++ [V.ref b2]))) d k l := ⟨same_mut (nwC.same s2).sm R.w0, nwC.d, nwC.k, nwC.l⟩
        have hbD : Li (upd (upd HC b2 (.lst (B.map V.int))) pw (.lst (aW.map V.ref ++ [V.ref b2]))) b B := by
          show upd _ _ _ _ = _
          rw [upd_ne nbw]
          exact s2 _ _ hbC
        have ob2 := hD.ot_new nb2
        show tSeq _ _ _ _ (upd (upd HC b2 (.lst (B.map V.int))) pw (.lst (aW.map V.ref ++ [V.ref b2])))
        generalize upd (upd HC b2 (.lst (B.map V.int))) pw (.lst (aW.map V.ref ++ [V.ref b2])) = HD at hwD owD hqD dkD nwD hbD
        have fl := frame_len B
        have vl := vint_len100 (len_NB (n := B.length) (by omega))
        refine ⟨_, rfl, _, rfl, b, B, rfl, hbD, by omega, fun pf HE sE nf hf => ⟨pq, pf, _, _, rfl, rfl, sE _ _ hqD, hf, szle (by rw [List.length_map, List.length_map]; omega), fun pr nr => ?_⟩⟩
        rw [← List.map_append]
        have s3 := sE.trans (same_new (o := .lst ((encB wr ++ frame B).map V.int)) nr)
        have nrD : HD pr = none := sE.free nr
        have hpr : Li (upd HE pr (.lst ((encB wr ++ frame B).map V.int))) pr (encB wr ++ frame B) := upd_same
        show tSeq _ _ _ _ (upd HE pr (.lst ((encB wr ++ frame B).map V.int)))
        generalize upd HE pr (.lst ((encB wr ++ frame B).map V.int)) = HF at s3 hpr
        refine ⟨_, rfl, .inl ⟨rfl, _, SqL.of (s3 _ _ hbD)⟩, b, _, _, rfl, rfl, s3 _ _ hbD, szl (by rw [List.length_map]; omega), ?_⟩
        refine ⟨_, rfl, rfl, _, rfl, ifF (decide_eq_false fun q => by have := V.int.inj q; omega) ?_⟩
        refine ⟨_, rfl, _, _, rfl, rfl, _, rfl, ifF (decide_eq_false (by omega)) ?_⟩
        refine ⟨_, rfl, _, _, rfl, rfl, _, rfl, ifF (decide_eq_false (by omega)) ?_⟩
        refine fin _ _ ⟨d, k, l, ps, py, pw, pr, aY, aW ++ [b2], sy, wr ++ [B], _, _, _, _, _, _, _, _, rfl, ?_⟩
        have nY := R.ow.ne nb0
        have nrb : b ≠ pr := ne_of_none hbD nrD
        refine ⟨⟨same_mut (nwD.same s3).sm (R.nw.sm.free nb0), nwD.d, nwD.k, nwD.l⟩, ?_, (owD.same s3).put nY, (hwD.same s3).to fun x o e hx => ?_, ?_, ?_, R.w0, ?_, ?_, R.by_, ?_⟩
        · rw [encB_snoc]
          exact (dkD.same s3).put ob
        · rw [upd_ne]
          · exact e
          rcases hx with rfl | hx
          · exact nbw.symm
          · rcases List.mem_append.mp hx with hx | hx
            · obtain ⟨_, _, h2⟩ := R.hw.live hx
              exact ne_of_none h2 nb0
            · have : x = b2 := by simpa using hx
              rw [this]
              exact nbb.symm
        · show upd _ _ _ _ = _
          rw [upd_ne nrb.symm, encB_snoc]
          exact hpr
        · rintro x (rfl | rfl | hx)
          · exact R.ot _ (.inl rfl)
          · exact dkD.ot_new nrD
          · rcases List.mem_append.mp hx with hx | hx
            · exact R.ot _ (.inr (.inr hx))
            · have : x = b2 := by simpa using hx
              rw [this]
              exact ob2
        · rintro x (hx | rfl)
          · exact R.wn x (.inl hx)
          · exact (ne_of_none hwD.at_ nrD).symm
        · rw [List.length_append]
          show sy.length + (wr.length + 1) ≤ _
          omega
        · intro y hy
          rcases List.mem_append.mp hy with hy | hy
          · exact R.bw y hy
          · have : y = B := by simpa using hy
            rw [this]
            exact ⟨by omega, bm⟩
      · refine ⟨_, rfl, _, _, rfl, rfl, _, rfl, ifF (decide_eq_false hk) ?_⟩
        have al := R.hw.len
        have bl := R.ow.hy.len
        obtain ⟨dx, ha⟩ := R.dk.at_
        apply via2 (fun σ H' => ∃ d k l ps py aY sy v4 v5 v6 v7 v9 v10 v11 v12 v13, σ = [some (.ref a), some (.ref d), some (.ref ps), some (.ref py), v4, v5, v6, v7, some (.int (z % 5)), v9, v10, v11, v12, v13] ∧ Nw H H' d k l ∧ Dk T H' d k l (encB sy) [] ∧ Ow H' d k l ps py aY (encB sy) sy ∧ sy.length ≤ i ∧ Byt sy)
        · intro fin2
          refine ⟨_, rfl, rfl, _, rfl, iteD (fun k2 => ?_) (fun k2 => ?_)⟩
          · have k2 : z % 5 = 2 := V.int.inj k2
            refine ⟨_, rfl, d, dx, _, rfl, ha, dkf_no _ _ (by decide +kernel) (by decide +kernel), d, k, l, _, _, rfl, R.dk, by omega, fun l' HB hD c => ?_⟩
            have nwB := R.nw.kp c
            have owB := R.ow.kp c
            have hqB := c _ _ R.hq (R.ot _ (.inr (.inl rfl)))
            have hwB : Blk HB pw aW wr := R.hw.to fun x o e hx => (c x o e (R.ot x (hx.elim .inl fun q => .inr (.inr q)))).1
            have oW : ∀ x ∈ aW, Ot d k l' x := fun x hx => by
              obtain ⟨_, _, h2⟩ := R.hw.live hx
              exact (c _ _ h2 (R.ot _ (.inr (.inr hx)))).2
            refine ⟨_, rfl, _, rfl, ps, pq, _, _, rfl, rfl, owB.hs, hqB.1, szle (by rw [List.length_map, List.length_map]; omega), fun p1 n1 => ?_⟩
            rw [← List.map_append]
            have s1 := same_new (o := .lst ((encB sy ++ encB wr).map V.int)) n1
            have hp1 : Li (upd HB p1 (.lst ((encB sy ++ encB wr).map V.int))) p1 (encB sy ++ encB wr) := upd_same
            show tSeq _ _ _ _ (upd HB p1 (.lst ((encB sy ++ encB wr).map V.int)))
            generalize upd HB p1 (.lst ((encB sy ++ encB wr).map V.int)) = HC at s1 hp1
            have owC := owB.same s1
            have hwC := hwB.same s1
            refine ⟨_, rfl, _, rfl, py, pw, _, _, rfl, rfl, owC.hy.at_, hwC.at_, szle (by rw [List.length_map, List.length_map]; omega), fun p2 n2 => ?_⟩
            have s2 := same_new (o := .lst (aY.map V.ref ++ aW.map V.ref)) n2
            have hp2 := owC.hy.cat hwC n2
            refine ⟨_, rfl, _, _, rfl, rfl, _, rfl, ifF (decide_eq_false (by omega)) ?_⟩
            refine fin2 _ _ ⟨d, k, l', p1, p2, aY ++ aW, sy ++ wr, _, _, _, _, _, _, _, _, _, rfl, (nwB.same s1).same s2, ?_, ⟨?_, hp2, ?_⟩, by rw [List.length_append]; omega, ?_⟩
            · rw [encB_app]
              exact (hD.same s1).same s2
            · rw [encB_app]
              exact s2 _ _ hp1
            · rintro x (rfl | rfl | hx)
              · exact hD.ot_new n1
              · exact (hD.same s1).ot_new n2
              · rcases List.mem_append.mp hx with hx | hx
                · exact owB.ot _ (.inr (.inr hx))
                · exact oW _ hx
            · intro y hy
              rcases List.mem_append.mp hy with hy | hy
              · exact R.by_ y hy
              · exact R.bw y hy
          · have k2 : ¬ z % 5 = 2 := fun e => k2 (congrArg V.int e)
            refine ⟨_, rfl, _, _, rfl, rfl, _, rfl, ifT (decide_eq_true (by omega)) ?_⟩
            have wl : (encB wr).length ≤ 6000 := by omega
            generalize hW : encB wr = W at wl
            have hqW : Li HA pq W := by rw [← hW]; exact R.hq
            have dkW : Dk T HA d k l (encB sy) W := by rw [← hW]; exact R.dk
            -- count
            refine ⟨_, rfl, _, _, rfl, .inl ⟨_, SqL.of hqW, rfl⟩, _, rfl, .inl ⟨_, rfl, _, rfl, _, _, rfl, .inl ⟨_, SqL.of hqW, rfl⟩, _, _, rfl, rfl, _, _, rfl, rfl, ?_, (by show 2 ≤ sizeLine; decide), fun p np => ?_⟩⟩
            · show (0 : Int) < ((W.map V.int).length : Nat) + 1
              omega
            obtain ⟨n, hn, hidx⟩ : ∃ n : Nat, n ≤ W.length ∧ atI [V.int ((W.map V.int).length : Nat), V.int (z / 5 % (((W.map V.int).length : Nat) + 1))] (z % 5 - 3) = some (V.int n) := by
              rw [List.length_map]
              have c3 : z % 5 - 3 = 0 ∨ z % 5 - 3 = 1 := by omega
              rcases c3 with e | e
              · exact ⟨W.length, Nat.le_refl _, by rw [e]; exact atI_nat (j := 0) rfl⟩
              · have e1 := Int.emod_nonneg (z / 5) (show (((W.length : Nat) : Int) + 1) ≠ 0 by omega)
                have e2 := Int.emod_lt_of_pos (z / 5) (show 0 < (((W.length : Nat) : Int) + 1) by omega)
                refine ⟨(z / 5 % (((W.length : Nat) : Int) + 1)).toNat, by omega, ?_⟩
                rw [e, Int.toNat_of_nonneg e1]
                exact atI_nat (j := 1) rfl
            refine ⟨_, rfl, _, _, rfl, rfl, p, _, _, _, rfl, rfl, SqL.of upd_same, hidx, ?_⟩
            have t1 := same_new (o := .lst [V.int ((W.map V.int).length : Nat), V.int (z / 5 % (((W.map V.int).length : Nat) + 1))]) np
            show tSeq _ _ _ _ (upd HA p (.lst [V.int ((W.map V.int).length : Nat), V.int (z / 5 % (((W.map V.int).length : Nat) + 1))]))
            generalize upd HA p (.lst [V.int ((W.map V.int).length : Nat), V.int (z / 5 % (((W.map V.int).length : Nat) + 1))]) = HB at t1
            -- byte
            refine ⟨_, rfl, _, _, rfl, rfl, ⟨by decide, by decide⟩, _, _, rfl, rfl, by show (0 : Int) < _; decide, (by show 2 ≤ sizeLine; decide), fun p2 np2 => ?_⟩
            obtain ⟨v, hv, hidx2⟩ : ∃ v : Option Int, (∀ b, v = some b → 0 ≤ b ∧ b ≤ 255) ∧ atI [V.non, V.int (z / 5 / 7 % 256)] (z / 5 / 3 % 2) = some (lastV v) := by
              have c3 : z / 5 / 3 % 2 = 0 ∨ z / 5 / 3 % 2 = 1 := by omega
              rcases c3 with e | e
              · exact ⟨none, fun b q => (by cases q), by rw [e]; exact atI_nat (j := 0) rfl⟩
              · refine ⟨some (z / 5 / 7 % 256), fun b q => ?_, by rw [e]; exact atI_nat (j := 1) rfl⟩
                have q := Option.some.inj q
                omega
            refine ⟨_, rfl, _, _, rfl, rfl, ⟨by decide, by decide⟩, _, _, rfl, rfl, by show (0 : Int) < _; decide, p2, _, _, _, rfl, rfl, SqL.of upd_same, hidx2, ?_⟩
            have t2 := t1.trans (same_new (o := .lst [V.non, V.int (z / 5 / 7 % 256)]) np2)
            show tSeq _ _ _ _ (upd HB p2 (.lst [V.non, V.int (z / 5 / 7 % 256)]))
            generalize upd HB p2 (.lst [V.non, V.int (z / 5 / 7 % 256)]) = HC at t2
            have noc : ∀ {kk ll : Addr}, (dkf kk ll).lookup ("crash" : Str) = none := fun {kk ll} => dkf_no kk ll (by decide +kernel) (by decide +kernel)
            -- what a disk refuses
            refine ⟨_, rfl, _, rfl, _, rfl, .inl ⟨_, rfl, _, _, rfl, rfl, by show (0 : Int) < _; decide, _, _, rfl, rfl, d, k, l, _, _, _, none, rfl, dkW.same t2, by omega, .inl (by show -1 - z / 5 % 5 < 0; omega), fun HD sD => ⟨_, rfl, ifF rfl ?_⟩⟩⟩
            have t3 := t2.trans sD
            refine ⟨_, rfl, _, rfl, _, _, rfl, .inl ⟨_, SqL.of (t3 _ _ hqW), rfl⟩, _, _, rfl, rfl, _, rfl, d, k, l, _, _, _, v, rfl, dkW.same t3, by omega, .inr (.inl (by rw [List.length_map]; omega)), fun HE sE => ⟨_, rfl, ifF rfl ?_⟩⟩
            have t4 := t3.trans sE
            refine ⟨_, rfl, _, rfl, _, rfl, .inl ⟨_, rfl, _, _, rfl, rfl, by show (0 : Int) < _; decide, _, _, rfl, rfl, d, k, l, _, _, _, some (256 + z / 5 % 3), rfl, dkW.same t4, by omega, .inr (.inr ⟨_, rfl, .inr (by omega)⟩), fun HF sF => ⟨_, rfl, ifF rfl ?_⟩⟩⟩
            have t5 := t4.trans sF
            refine ⟨_, rfl, _, rfl, _, rfl, d, k, l, _, _, _, some (-1), rfl, dkW.same t5, by omega, .inr (.inr ⟨_, rfl, .inl (by decide)⟩), fun HG sG => ⟨_, rfl, ifF rfl ?_⟩⟩
            have t6 := t5.trans sG
            -- torn
            apply via2 (fun σ H' => σ = [some (.ref a), some (.ref d), some (.ref ps), some (.ref py), some (.ref pw), some (.ref pq), some (.int (0 + (i : Int))), some (.int (z / 5)), some (.int (z % 5)), v9, some (.int n), some (lastV v), some (.bl (decide (sav W n v ≠ W.take n))), v13] ∧ H' = HG)
            · intro fin3
              have hvv : (lastV v = .non ∧ v = none) ∨ ∃ b, lastV v = .int b ∧ v = some b := by
                cases v with
                | none => exact .inl ⟨rfl, rfl⟩
                | some b => exact .inr ⟨b, rfl, rfl⟩
              refine ⟨_, rfl, rfl, _, rfl, ?_⟩
              rcases hvv with ⟨e, ev⟩ | ⟨b, e, ev⟩
              · refine ifF (by show (!decide (lastV v = V.non)) = false; rw [e]; rfl) ?_
                show tSeq _ _ _ _ _
                refine fin3 _ _ ⟨?_, rfl⟩
                rw [torn_none ev, e]
                rfl
              · refine ifT (by show (!decide (lastV v = V.non)) = true; rw [e]; rfl) ?_
                refine ⟨_, rfl, _, _, rfl, rfl, _, rfl, ?_⟩
                by_cases c0 : (0 : Int) < n
                · refine ifT (decide_eq_true c0) ?_
                  obtain ⟨x, hx⟩ : ∃ x, W[n - 1]? = some x := ⟨_, List.getElem?_eq_getElem (by omega)⟩
                  refine ⟨_, rfl, _, rfl, _, _, rfl, rfl, pq, _, _, .int x, rfl, rfl, SqL.of (t6 _ _ hqW), at_of (j := n - 1) (by omega) (by rw [List.getElem?_map, hx]; rfl), _, rfl, by rw [e]; rfl, ?_⟩
                  show tSeq _ _ _ _ _
                  refine fin3 _ _ ⟨?_, rfl⟩
                  rw [torn_some ev (by omega) hn hx, e]
                  rfl
                · refine ifF (decide_eq_false c0) ?_
                  show tSeq _ _ _ _ _
                  refine fin3 _ _ ⟨?_, rfl⟩
                  rw [torn_zero (W := W) ev (by omega)]
                  rfl
            · rintro σ H' ⟨rfl, rfl⟩
              have hvv : (lastV v = .non ∧ v = none) ∨ ∃ b, lastV v = .int b ∧ v = some b := by
                cases v with
                | none => exact .inl ⟨rfl, rfl⟩
                | some b => exact .inr ⟨b, rfl, rfl⟩
              have hWb : ∀ x ∈ W, 0 ≤ x ∧ x < 256 := by rw [← hW]; exact encB_byte R.bw
              have sl := sav_len (v := v) hn
              obtain ⟨tl, htl, hno⟩ := surv_ok wr (sav W n v) (fun b hb => (R.bw b hb).2) (sav_byte hWb hv) (by rw [sl, hW]; exact hn) (fun j hj => by rw [hW]; exact sav_get (by omega))
              rw [sl, hW] at htl
              generalize decide (sav W n v ≠ W.take n) = tb at htl
              have hX : Byt (sy ++ surv wr n tb) := by
                intro y hy
                rcases List.mem_append.mp hy with hy | hy
                · exact R.by_ y hy
                · exact R.bw y (surv_sub _ _ _ y hy)
              have hXl : (sy ++ surv wr n tb).length ≤ i := by
                have := surv_len wr n tb
                rw [List.length_append]
                omega
              have eK : encB sy ++ sav W n v = encB (sy ++ surv wr n tb) ++ tl := by rw [htl, encB_app, List.append_assoc]
              have dE := decFs_enc (sy ++ surv wr n tb) tl (hno.elim .inl fun h => .inr (h _))
              have Kl : (encB sy ++ sav W n v).length ≤ 20000 := by rw [List.length_append, sl]; omega
              have R6 := R.same t6
              obtain ⟨dx, ha⟩ := R6.dk.at_
              refine ⟨_, rfl, d, dx, _, rfl, ha, noc, _, rfl, _, rfl, rfl, rfl, d, k, l, _, _, n, v, rfl, dkW.same t6, by omega, fun _ _ _ l' HH hD c => ?_, fun q => ?_⟩
              rotate_left
              · rcases q with q | q | ⟨b, q, q2⟩
                · omega
                · omega
                · have := hv b q
                  omega
              rw [Int.toNat_natCast] at hD
              have nwH := R6.nw.kp c
              have owH := R6.ow.kp c
              have hqH : Li HH pq W := (c _ _ (t6 _ _ hqW) (R.ot _ (.inr (.inl rfl)))).1
              have hwH : Blk HH pw aW wr := R6.hw.to fun x o e hx => (c x o e (R.ot x (hx.elim .inl fun q => .inr (.inr q)))).1
              have oW : ∀ x ∈ aW, Ot d k l' x := fun x hx => by
                obtain ⟨_, _, h2⟩ := R6.hw.live hx
                exact (c _ _ h2 (R.ot _ (.inr (.inr hx)))).2
              -- saved
              refine ⟨_, rfl, _, rfl, _, rfl, pq, _, rfl, SqL.of hqH, fun sv nsv => ?_⟩
              rw [cut_to, ← List.map_take]
              apply via (fun H' => Same HH H' ∧ Li H' sv (sav W n v))
              · intro fin4
                have sq := same_new (o := .lst ((W.take n).map V.int)) nsv
                refine ⟨_, rfl, rfl, _, rfl, ?_⟩
                rcases hvv with ⟨e, ev⟩ | ⟨b, e, ev⟩
                · refine ifF (by show (!decide (lastV v = V.non)) = false; rw [e]; rfl) (ifF rfl ?_)
                  have f2 : Li (upd HH sv (.lst ((W.take n).map V.int))) sv (sav W n v) := by rw [ev]; exact upd_same
                  revert sq f2
                  generalize upd HH sv (.lst ((W.take n).map V.int)) = HI
                  intro sq f2
                  exact fin4 HI ⟨sq, f2⟩
                · refine ifT (by show (!decide (lastV v = V.non)) = true; rw [e]; rfl) ?_
                  refine ⟨_, rfl, _, _, rfl, rfl, _, rfl, iteD (fun q2 => ?_) (fun q2 => ?_)⟩
                  · have q2 : (0 : Int) < n := q2
                    have ei : ixN ((W.take n).map V.int).length ((n : Int) - 1) = some (n - 1) := by
                      unfold ixN
                      rw [List.length_map, List.length_take, if_pos (by omega), if_pos (by omega), show ((n : Int) - 1).toNat = n - 1 by omega]
                    refine ⟨_, rfl, _, rfl, _, rfl, _, _, rfl, rfl, sv, _, _, _, rfl, rfl, upd_same, ei, ?_⟩
                    refine fin4 _ ⟨same_mut sq nsv, ?_⟩
                    show upd _ _ _ _ = _
                    rw [upd_same, e, ev, ← List.map_set]
                    rfl
                  · have q2 : ¬ (0 : Int) < n := q2
                    refine fin4 _ ⟨sq, ?_⟩
                    have n0 : n = 0 := by omega
                    rw [ev, n0]
                    exact upd_same
              rintro HI ⟨sI, hsv⟩
              have osv := hD.ot_new nsv
              have owI := owH.same sI
              have hwI := hwH.same sI
              have al := R.hw.len
              have bl := R.ow.hy.len
              -- synced
              refine ⟨_, rfl, _, rfl, _, rfl, _, rfl, pw, aW, wr, _, _, rfl, hwI, by omega, fun b hb => by have := (R.bw b hb).1; omega, fun q asL HJ sJ nq hB hsub => ⟨py, q, _, _, rfl, rfl, sJ _ _ owI.hy.at_, hB.at_, szle ?_, fun r nr => ?_⟩⟩
              · have := surv_len wr n tb
                rw [List.length_map, List.length_map, hB.len, bl]
                omega
              have hr := (owI.hy.same sJ).cat hB nr
              have sK := sJ.trans (same_new (o := .lst (aY.map V.ref ++ asL.map V.ref)) nr)
              have orr := ((hD.same sI).same sJ).ot_new nr
              show tSeq _ _ _ _ (upd HJ r (.lst (aY.map V.ref ++ asL.map V.ref)))
              generalize upd HJ r (.lst (aY.map V.ref ++ asL.map V.ref)) = HK at hr sK
              have nwK := (nwH.same sI).same sK
              have hDK := (hD.same sI).same sK
              have hsvK := sK _ _ hsv
              have hpsK := sK _ _ owI.hs
              have oX : ∀ x, x = sv ∨ x = r ∨ x ∈ aY ++ asL → Ot d k l' x := by
                rintro x (rfl | rfl | hx)
                · exact osv
                · exact orr
                · rcases List.mem_append.mp hx with hx | hx
                  · exact owH.ot _ (.inr (.inr hx))
                  · exact oW _ (hsub x hx)
              have owK : Ow HK d k l' sv r (aY ++ asL) (sav W n v) (sy ++ surv wr n tb) := ⟨hsvK, hr, oX⟩
              obtain ⟨dxK, haK⟩ := hDK.at_
              have no : ∀ {m : Str}, ¬ m = "_loose" → ¬ m = "_kept" → (dkf k l').lookup m = none := fun e1 e2 => dkf_no k l' e1 e2
              refine ⟨_, rfl, d, dxK, _, rfl, haK, no (by decide +kernel) (by decide +kernel), d, k, l', _, _, rfl, hDK, fun q1 L1 u1 m1 hq1 => ?_⟩
              refine ⟨_, rfl, _, rfl, ps, sv, _, _, rfl, rfl, u1 _ _ hpsK, u1 _ _ hsvK, szle (by rw [List.length_map, List.length_map, ← List.length_append]; omega), fun q2 m2 => ?_⟩
              rw [← List.map_append]
              have u2 := u1.trans (same_new (o := .lst ((encB sy ++ sav W n v).map V.int)) m2)
              refine ⟨_, _, dp_ints (SqL.of (same_new m2 _ _ hq1)), dp_ints (SqL.of upd_same), shaped_dInts _, shaped_dInts _, _, rfl, ifF (by rw [eqv_dInts]; simp) ?_⟩
              generalize upd L1 q2 (.lst ((encB sy ++ sav W n v).map V.int)) = L2 at u2
              refine ⟨_, rfl, d, dxK, _, rfl, u2 _ _ haK, no (by decide +kernel) (by decide +kernel), d, k, l', _, _, rfl, hDK.same u2, fun q3 L3 u3 m3 hq3 => ?_⟩
              refine ⟨Nat.zero_le _, fun q4 m4 => ?_⟩
              have u4 := (u2.trans u3).trans (same_new (o := .lst []) m4)
              refine ⟨_, _, dp_ints (SqL.of (same_new m4 _ _ hq3)), dp_ints (ns := []) (SqL.of upd_same), shaped_dInts _, shaped_dInts _, _, rfl, ifF (by rw [eqv_dInts]; simp) ?_⟩
              generalize upd L3 q4 (.lst []) = L4 at u4
              refine ⟨_, rfl, d, dxK, _, rfl, u4 _ _ haK, no (by decide +kernel) (by decide +kernel), d, k, l', _, _, rfl, hDK.same u4, by show _ + 0 ≤ _; omega, fun fr fas L5 u5 m5 hB5 => ?_⟩
              rw [List.append_nil, eK, dE] at hB5
              have u45 := u4.trans u5
              refine ⟨_, rfl, _, _, hB5.dp, (hr.same u45).dp, shaped_dBlks _, shaped_dBlks _, _, rfl, ifF (by rw [eqv_dBlks]; simp) ?_⟩
              -- mend
              refine ⟨_, rfl, d, dxK, _, rfl, u45 _ _ haK, no (by decide +kernel) (by decide +kernel), d, k, l', _, _, rfl, hDK.same u45, by omega, by rw [eK, dE]; exact Int.natCast_nonneg _, fun k2 l2 HM hDM c2 => ?_⟩
              rw [eK, dE, Int.toNat_natCast, List.take_left' rfl] at hDM
              have nwM := (nwK.same u45).kp c2
              have owM := (owK.same u45).kp c2
              refine ⟨Nat.zero_le _, fun s0 n0 => ?_⟩
              have os0 := hDM.ot_new n0
              have sN := same_new (o := .lst []) n0
              have hs0 : Li (upd HM s0 (.lst [])) s0 [] := upd_same
              show tSeq _ _ _ _ (upd HM s0 (.lst []))
              generalize upd HM s0 (.lst []) = HN at sN hs0
              have nwN := nwM.same sN
              have owN := owM.same sN
              have hDN := hDM.same sN
              generalize hXe : sy ++ surv wr n tb = X at hX hXl owN hDN
              refine ⟨_, rfl, r, rfl, ⟨_, SqL.of owN.hy.at_⟩, for_list (K := K) (a := r) (xs := (aY ++ asL).map V.ref) (fun j σ H' => ∃ s' v9, σ = [some (.ref a), some (.ref d), some (.ref s'), some (.ref r), some (.ref pw), some (.ref pq), some (.int (0 + (i : Int))), some (.int (z / 5)), some (.int (z % 5)), v9, some (.int n), some (lastV v), some (.bl tb), some (.ref sv)] ∧ Same HN H' ∧ Li H' s' (encB (X.take j)) ∧ Ot d k2 l2 s') ⟨s0, _, rfl, Same.refl _, hs0, os0⟩ (fun j σ H' _ h => by obtain ⟨_, _, _, s1, _⟩ := h; exact s1.seq (SqL.of owN.hy.at_)) ?_ ?_⟩
              · rintro j y σ H' hj ⟨s', v9, rfl, s1, hs', os'⟩
                obtain ⟨x, hx, rfl⟩ : ∃ x, (aY ++ asL)[j]? = some x ∧ y = V.ref x := by
                  rw [List.getElem?_map] at hj
                  cases e : (aY ++ asL)[j]? with
                  | none => rw [e] at hj; cases hj
                  | some u => rw [e] at hj; exact ⟨u, rfl, (Option.some.inj hj).symm⟩
                obtain ⟨_, b, hb, hL⟩ := owN.hy.each j x hx
                have hb2 := hX b (List.mem_of_getElem? hb)
                have el := encB_le (X.take j) fun b hb => (hX b (List.mem_of_mem_take hb)).1
                rw [List.length_take] at el
                have fl := frame_len b
                have vl := vint_len100 (len_NB (n := b.length) (by omega))
                refine ⟨_, rfl, _, rfl, x, b, rfl, s1 _ _ hL, by omega, fun pf HE sE nf hf => ⟨s', pf, _, _, rfl, rfl, sE _ _ hs', hf, szle (by rw [List.length_map, List.length_map]; omega), fun t nt => ?_⟩⟩
                rw [← List.map_append]
                refine ⟨t, _, rfl, (s1.trans sE).trans (same_new nt), ?_, ?_⟩
                · rw [take_succ hb, encB_snoc]
                  exact upd_same
                · exact ((hDN.same s1).same sE).ot_new nt
              · rintro σ H' ⟨s', v9, rfl, s1, hs', os'⟩
                rw [List.length_map, owN.hy.len, List.take_length] at hs'
                refine fin2 _ _ ⟨d, k2, l2, s', r, aY ++ asL, X, _, _, _, _, _, _, _, _, _, rfl, nwN.same s1, hDN.same s1, ⟨hs', (owN.same s1).hy, ?_⟩, hXl, hX⟩
                rintro x (rfl | hx)
                · exact os'
                · exact owN.ot x (.inr hx)
        · rintro σ HB ⟨d, k, l, ps, py, aY, sy, v4, v5, v6, v7, v9, v10, v11, v12, v13, rfl, nw, dk, ow, ll, hb⟩
          refine ⟨_, rfl, _, _, rfl, rfl, _, rfl, ifT (decide_eq_true (by omega)) ?_⟩
          refine ⟨Nat.zero_le _, fun pw npw => ?_⟩
          have t3 := same_new (o := .lst []) npw
          have hpw : Blk (upd HB pw (.lst [])) pw [] [] := Blk.nil
          refine ⟨Nat.zero_le _, fun pq npq => ?_⟩
          have t4 := same_new (o := .lst []) npq
          refine fin _ _ ⟨d, k, l, ps, py, pw, pq, aY, [], sy, [], _, _, _, _, _, _, _, _, rfl, ?_⟩
          refine ⟨(nw.same t3).same t4, (dk.same t3).same t4, (ow.same t3).same t4, hpw.same t4, upd_same, ?_, nw.sm.free npw, ?_, by show sy.length + 0 ≤ _; omega, hb, (by intro b hb; cases hb)⟩
          · rintro x (rfl | rfl | hx)
            · exact dk.ot_new npw
            · exact (dk.same t3).ot_new npq
            · cases hx
          · rintro x (hx | rfl)
            · exact ow.ne npw x hx
            · exact (ne_of_none hpw.at_ npq).symm
    · rintro σ HB ⟨d, k, l, ps, py, pw, pq, aY, aW, sy, wr, v6, v7, v8, v9, v10, v11, v12, v13, rfl, R⟩
      have ll := R.len
      have l1 := encB_le sy fun b hb => (R.by_ b hb).1
      have l2 := encB_le wr fun b hb => (R.bw b hb).1
      have al := R.hw.len
      have bl := R.ow.hy.len
      refine ⟨_, rfl, _, rfl, _, rfl, _, rfl, _, rfl, py, pw, _, _, rfl, rfl, R.ow.hy.at_, R.hw.at_, szle (by rw [List.length_map, List.length_map]; omega), fun r nr => ?_⟩
      have s1 := same_new (o := .lst (aY.map V.ref ++ aW.map V.ref)) nr
      have hr := R.ow.hy.cat R.hw nr
      have dE := decFs_enc (sy ++ wr) [] (.inl rfl)
      rw [List.append_nil, encB_app] at dE
      refine ⟨d, k, l, ps, pq, r, _, _, sy ++ wr, rfl, R.dk.same s1, by omega, s1 _ _ R.ow.hs, s1 _ _ R.hq, hr.dp, by rw [dE], fun HC sC => ⟨_, rfl, ifF rfl ?_⟩⟩
      exact ⟨d, k, l, ps, py, pw, pq, aY, aW, sy, wr, _, _, _, _, _, _, _, _, rfl, R.same (s1.trans sC)⟩
  rintro σ HA ⟨d, k, l, ps, py, pw, pq, aY, aW, sy, wr, v6, v7, v8, v9, v10, v11, v12, v13, rfl, R⟩
  obtain ⟨dx, ha⟩ := R.dk.at_
  have ll := R.len
  have l1 := encB_le sy fun b hb => (R.by_ b hb).1
  have l2 := encB_le wr fun b hb => (R.bw b hb).1
  refine ⟨_, rfl, d, dx, _, rfl, ha, dkf_no _ _ (by decide +kernel) (by decide +kernel), d, k, l, _, _, 0, none, rfl, R.dk, by omega, fun _ _ _ l' HB hD c => ?_, fun q => ?_⟩
  · have hO := R.ow.kp c
    obtain ⟨dx2, ha2⟩ := hD.at_
    have e0 : encB sy ++ sav (encB wr) (0 : Int).toNat none = encB sy := List.append_nil _
    rw [e0] at hD
    refine ⟨_, rfl, d, dx2, _, rfl, ha2, dkf_no _ _ (by decide +kernel) (by decide +kernel), d, k, l', _, _, rfl, hD, by show _ + 0 ≤ _; omega, fun p as HC sC np hB => ?_⟩
    have dE := decFs_enc sy [] (.inl rfl)
    rw [dE] at hB
    refine ⟨_, rfl, _, _, hB.dp, (hO.hy.same sC).dp, shaped_dBlks _, shaped_dBlks _, ?_⟩
    rw [eqv_dBlks, decide_eq_true rfl]
    exact h1 _
  · rcases q with q | q | ⟨b, q, _⟩
    · omega
    · omega
    · cases q

end
theorem all_mk {l : PySem.W.OpenLaw} {w : World} {K : PySem.W.Frag} {h : Heap} {mg : Str → Option Value} {fa C_MeridianError C_BadArgument C_BadBytes C_BadSeal C_Disk f_checksum f_seal f_open_seal f__checksum_bytes f_encode_number f_decode_number f__check_index f__last_index f_encode_frame f_decode_frame f_decode_frames f_Disk_init f_Disk_kept f_Disk_loose f_Disk_size P_Disk_size f_Disk_write f_Disk_sync f_Disk_crash f_Disk_frames f_Disk_mend f__law_cell f__law_draws f__law_block f__law_varint f__law_sum f__law_sealed f__law_frame f__law_refused f__law_stands f__law_survivors f_law : Addr} (X : K.In h) (G : h.Ns mainGlobals mg) (hfa : mg "law" = some (.ref fa))
    {od_checksum an_checksum : Option Addr} {sl_checksum : Array (Option Value)} {oc_checksum kV_checksum dc_checksum pm_checksum cd_checksum ct_checksum : Value}
    {od_seal an_seal : Option Addr} {sl_seal : Array (Option Value)} {oc_seal kV_seal dc_seal pm_seal cd_seal ct_seal : Value}
    {od_open_seal an_open_seal : Option Addr} {sl_open_seal : Array (Option Value)} {oc_open_seal kV_open_seal dc_open_seal pm_open_seal cd_open_seal ct_open_seal : Value}
    {od__checksum_bytes an__checksum_bytes : Option Addr} {sl__checksum_bytes : Array (Option Value)} {oc__checksum_bytes kV__checksum_bytes dc__checksum_bytes pm__checksum_bytes cd__checksum_bytes ct__checksum_bytes : Value}
    {od_encode_number an_encode_number : Option Addr} {sl_encode_number : Array (Option Value)} {oc_encode_number kV_encode_number dc_encode_number pm_encode_number cd_encode_number ct_encode_number : Value}
    {od_decode_number an_decode_number : Option Addr} {sl_decode_number : Array (Option Value)} {oc_decode_number kV_decode_number dc_decode_number pm_decode_number cd_decode_number ct_decode_number : Value}
    {D_decode_number : Addr} {to_decode_number : Value} {td_decode_number : Option Addr} {tn_decode_number : Nat} {tl_decode_number : Array (Option Value)} {tk0_decode_number : Tok}
    {od__check_index an__check_index : Option Addr} {sl__check_index : Array (Option Value)} {oc__check_index kV__check_index dc__check_index pm__check_index cd__check_index ct__check_index : Value}
    {od__last_index an__last_index : Option Addr} {sl__last_index : Array (Option Value)} {oc__last_index kV__last_index dc__last_index pm__last_index cd__last_index ct__last_index : Value}
    {od_encode_frame an_encode_frame : Option Addr} {sl_encode_frame : Array (Option Value)} {oc_encode_frame kV_encode_frame dc_encode_frame pm_encode_frame cd_encode_frame ct_encode_frame : Value}
    {od_decode_frame an_decode_frame : Option Addr} {sl_decode_frame : Array (Option Value)} {oc_decode_frame kV_decode_frame dc_decode_frame pm_decode_frame cd_decode_frame ct_decode_frame : Value}
    {D_decode_frame : Addr} {to_decode_frame : Value} {td_decode_frame : Option Addr} {tn_decode_frame : Nat} {tl_decode_frame : Array (Option Value)} {tk0_decode_frame : Tok}
    {od_decode_frames an_decode_frames : Option Addr} {sl_decode_frames : Array (Option Value)} {oc_decode_frames kV_decode_frames dc_decode_frames pm_decode_frames cd_decode_frames ct_decode_frames : Value}
    {od_Disk_init an_Disk_init : Option Addr} {sl_Disk_init : Array (Option Value)} {oc_Disk_init kV_Disk_init dc_Disk_init pm_Disk_init cd_Disk_init ct_Disk_init : Value}
    {od_Disk_kept an_Disk_kept : Option Addr} {sl_Disk_kept : Array (Option Value)} {oc_Disk_kept kV_Disk_kept dc_Disk_kept pm_Disk_kept cd_Disk_kept ct_Disk_kept : Value}
    {od_Disk_loose an_Disk_loose : Option Addr} {sl_Disk_loose : Array (Option Value)} {oc_Disk_loose kV_Disk_loose dc_Disk_loose pm_Disk_loose cd_Disk_loose ct_Disk_loose : Value}
    {od_Disk_size an_Disk_size : Option Addr} {sl_Disk_size : Array (Option Value)} {oc_Disk_size kV_Disk_size dc_Disk_size pm_Disk_size cd_Disk_size ct_Disk_size : Value}
    {rest_Disk_size : List Value}
    {od_Disk_write an_Disk_write : Option Addr} {sl_Disk_write : Array (Option Value)} {oc_Disk_write kV_Disk_write dc_Disk_write pm_Disk_write cd_Disk_write ct_Disk_write : Value}
    {od_Disk_sync an_Disk_sync : Option Addr} {sl_Disk_sync : Array (Option Value)} {oc_Disk_sync kV_Disk_sync dc_Disk_sync pm_Disk_sync cd_Disk_sync ct_Disk_sync : Value}
    {od_Disk_crash an_Disk_crash : Option Addr} {sl_Disk_crash : Array (Option Value)} {oc_Disk_crash dc_Disk_crash pm_Disk_crash cd_Disk_crash ct_Disk_crash : Value}
    {D_Disk_crash : Addr} {tk0_Disk_crash : Tok}
    {od_Disk_frames an_Disk_frames : Option Addr} {sl_Disk_frames : Array (Option Value)} {oc_Disk_frames kV_Disk_frames dc_Disk_frames pm_Disk_frames cd_Disk_frames ct_Disk_frames : Value}
    {od_Disk_mend an_Disk_mend : Option Addr} {sl_Disk_mend : Array (Option Value)} {oc_Disk_mend kV_Disk_mend dc_Disk_mend pm_Disk_mend cd_Disk_mend ct_Disk_mend : Value}
    {od__law_cell an__law_cell : Option Addr} {sl__law_cell : Array (Option Value)} {oc__law_cell kV__law_cell dc__law_cell pm__law_cell cd__law_cell ct__law_cell : Value}
    {od__law_draws an__law_draws : Option Addr} {sl__law_draws : Array (Option Value)} {oc__law_draws kV__law_draws dc__law_draws pm__law_draws cd__law_draws ct__law_draws : Value}
    {od__law_block an__law_block : Option Addr} {sl__law_block : Array (Option Value)} {oc__law_block kV__law_block dc__law_block pm__law_block cd__law_block ct__law_block : Value}
    {od__law_varint an__law_varint : Option Addr} {sl__law_varint : Array (Option Value)} {oc__law_varint kV__law_varint dc__law_varint pm__law_varint cd__law_varint ct__law_varint : Value}
    {od__law_sum an__law_sum : Option Addr} {sl__law_sum : Array (Option Value)} {oc__law_sum kV__law_sum dc__law_sum pm__law_sum cd__law_sum ct__law_sum : Value}
    {od__law_sealed an__law_sealed : Option Addr} {sl__law_sealed : Array (Option Value)} {oc__law_sealed kV__law_sealed dc__law_sealed pm__law_sealed cd__law_sealed ct__law_sealed : Value}
    {od__law_frame an__law_frame : Option Addr} {sl__law_frame : Array (Option Value)} {oc__law_frame kV__law_frame dc__law_frame pm__law_frame cd__law_frame ct__law_frame : Value}
    {od__law_refused an__law_refused : Option Addr} {sl__law_refused : Array (Option Value)} {oc__law_refused kV__law_refused dc__law_refused pm__law_refused cd__law_refused ct__law_refused : Value}
    {od__law_stands an__law_stands : Option Addr} {sl__law_stands : Array (Option Value)} {oc__law_stands kV__law_stands dc__law_stands pm__law_stands cd__law_stands ct__law_stands : Value}
    {od__law_survivors an__law_survivors : Option Addr} {sl__law_survivors : Array (Option Value)} {oc__law_survivors kV__law_survivors dc__law_survivors pm__law_survivors cd__law_survivors ct__law_survivors : Value}
    {od_law an_law : Option Addr} {sl_law : Array (Option Value)} {oc_law kV_law dc_law pm_law cd_law ct_law : Value}
    (mg_MeridianError : PySem.W.nsIn K mainGlobals "MeridianError" = some (some (.ref C_MeridianError)))
    (x_MeridianError : PySem.W.excIn K C_MeridianError [.type "ValueError", .type "Exception", .type "BaseException", .type "object"] "ValueError.__new__" = true)
    (kc_MeridianError : PySem.W.keepIn K (.ref C_MeridianError) = true)
    (bp_MeridianError : PySem.W.subIn K (.ref C_MeridianError) (.type "BaseException") = some true)
    (tp_MeridianError : PySem.W.typeIn K (.ref C_MeridianError) = some (.type "type"))
    (ip_MeridianError : PySem.W.isClsIn K C_MeridianError = true)
    (ga_MeridianError : PySem.W.findIn K (.ref C_MeridianError) "__getattribute__" = some (some (.builtin "BaseException.__getattribute__")))
    (gt_MeridianError : PySem.W.findIn K (.ref C_MeridianError) "__getattr__" = some none)
    (hd_MeridianError : PySem.W.hasDictIn K C_MeridianError = true)
    (ca_MeridianError : PySem.W.findIn K (.ref C_MeridianError) "__class__" = some (some (.builtin "object.__class__")))
    (mo_MeridianError : PySem.W.mroIn K C_MeridianError (.type "object") = some true)
    (ve_MeridianError : PySem.W.subIn K (.ref C_MeridianError) (.type "ValueError") = some true)
    (u_MeridianError_MeridianError : PySem.W.subIn K (.ref C_MeridianError) (.ref C_MeridianError) = some true)
    (u_MeridianError_BadArgument : PySem.W.subIn K (.ref C_MeridianError) (.ref C_BadArgument) = some false)
    (u_MeridianError_BadBytes : PySem.W.subIn K (.ref C_MeridianError) (.ref C_BadBytes) = some false)
    (u_MeridianError_BadSeal : PySem.W.subIn K (.ref C_MeridianError) (.ref C_BadSeal) = some false)
    (mg_BadArgument : PySem.W.nsIn K mainGlobals "BadArgument" = some (some (.ref C_BadArgument)))
    (x_BadArgument : PySem.W.excIn K C_BadArgument [.type "ValueError", .type "Exception", .type "BaseException", .type "object"] "ValueError.__new__" = true)
    (kc_BadArgument : PySem.W.keepIn K (.ref C_BadArgument) = true)
    (bp_BadArgument : PySem.W.subIn K (.ref C_BadArgument) (.type "BaseException") = some true)
    (tp_BadArgument : PySem.W.typeIn K (.ref C_BadArgument) = some (.type "type"))
    (ip_BadArgument : PySem.W.isClsIn K C_BadArgument = true)
    (ga_BadArgument : PySem.W.findIn K (.ref C_BadArgument) "__getattribute__" = some (some (.builtin "BaseException.__getattribute__")))
    (gt_BadArgument : PySem.W.findIn K (.ref C_BadArgument) "__getattr__" = some none)
    (hd_BadArgument : PySem.W.hasDictIn K C_BadArgument = true)
    (ca_BadArgument : PySem.W.findIn K (.ref C_BadArgument) "__class__" = some (some (.builtin "object.__class__")))
    (mo_BadArgument : PySem.W.mroIn K C_BadArgument (.type "object") = some true)
    (ve_BadArgument : PySem.W.subIn K (.ref C_BadArgument) (.type "ValueError") = some true)
    (u_BadArgument_MeridianError : PySem.W.subIn K (.ref C_BadArgument) (.ref C_MeridianError) = some true)
    (u_BadArgument_BadArgument : PySem.W.subIn K (.ref C_BadArgument) (.ref C_BadArgument) = some true)
    (u_BadArgument_BadBytes : PySem.W.subIn K (.ref C_BadArgument) (.ref C_BadBytes) = some false)
    (u_BadArgument_BadSeal : PySem.W.subIn K (.ref C_BadArgument) (.ref C_BadSeal) = some false)
    (mg_BadBytes : PySem.W.nsIn K mainGlobals "BadBytes" = some (some (.ref C_BadBytes)))
    (x_BadBytes : PySem.W.excIn K C_BadBytes [.type "ValueError", .type "Exception", .type "BaseException", .type "object"] "ValueError.__new__" = true)
    (kc_BadBytes : PySem.W.keepIn K (.ref C_BadBytes) = true)
    (bp_BadBytes : PySem.W.subIn K (.ref C_BadBytes) (.type "BaseException") = some true)
    (tp_BadBytes : PySem.W.typeIn K (.ref C_BadBytes) = some (.type "type"))
    (ip_BadBytes : PySem.W.isClsIn K C_BadBytes = true)
    (ga_BadBytes : PySem.W.findIn K (.ref C_BadBytes) "__getattribute__" = some (some (.builtin "BaseException.__getattribute__")))
    (gt_BadBytes : PySem.W.findIn K (.ref C_BadBytes) "__getattr__" = some none)
    (hd_BadBytes : PySem.W.hasDictIn K C_BadBytes = true)
    (ca_BadBytes : PySem.W.findIn K (.ref C_BadBytes) "__class__" = some (some (.builtin "object.__class__")))
    (mo_BadBytes : PySem.W.mroIn K C_BadBytes (.type "object") = some true)
    (ve_BadBytes : PySem.W.subIn K (.ref C_BadBytes) (.type "ValueError") = some true)
    (u_BadBytes_MeridianError : PySem.W.subIn K (.ref C_BadBytes) (.ref C_MeridianError) = some true)
    (u_BadBytes_BadArgument : PySem.W.subIn K (.ref C_BadBytes) (.ref C_BadArgument) = some false)
    (u_BadBytes_BadBytes : PySem.W.subIn K (.ref C_BadBytes) (.ref C_BadBytes) = some true)
    (u_BadBytes_BadSeal : PySem.W.subIn K (.ref C_BadBytes) (.ref C_BadSeal) = some false)
    (mg_BadSeal : PySem.W.nsIn K mainGlobals "BadSeal" = some (some (.ref C_BadSeal)))
    (x_BadSeal : PySem.W.excIn K C_BadSeal [.type "ValueError", .type "Exception", .type "BaseException", .type "object"] "ValueError.__new__" = true)
    (kc_BadSeal : PySem.W.keepIn K (.ref C_BadSeal) = true)
    (bp_BadSeal : PySem.W.subIn K (.ref C_BadSeal) (.type "BaseException") = some true)
    (tp_BadSeal : PySem.W.typeIn K (.ref C_BadSeal) = some (.type "type"))
    (ip_BadSeal : PySem.W.isClsIn K C_BadSeal = true)
    (ga_BadSeal : PySem.W.findIn K (.ref C_BadSeal) "__getattribute__" = some (some (.builtin "BaseException.__getattribute__")))
    (gt_BadSeal : PySem.W.findIn K (.ref C_BadSeal) "__getattr__" = some none)
    (hd_BadSeal : PySem.W.hasDictIn K C_BadSeal = true)
    (ca_BadSeal : PySem.W.findIn K (.ref C_BadSeal) "__class__" = some (some (.builtin "object.__class__")))
    (mo_BadSeal : PySem.W.mroIn K C_BadSeal (.type "object") = some true)
    (ve_BadSeal : PySem.W.subIn K (.ref C_BadSeal) (.type "ValueError") = some true)
    (u_BadSeal_MeridianError : PySem.W.subIn K (.ref C_BadSeal) (.ref C_MeridianError) = some true)
    (u_BadSeal_BadArgument : PySem.W.subIn K (.ref C_BadSeal) (.ref C_BadArgument) = some false)
    (u_BadSeal_BadBytes : PySem.W.subIn K (.ref C_BadSeal) (.ref C_BadBytes) = some true)
    (u_BadSeal_BadSeal : PySem.W.subIn K (.ref C_BadSeal) (.ref C_BadSeal) = some true)
    (cn : PySem.W.specialIn K (.builtin "object.__class__") "__get__" = some (some (.builtin "getset_descriptor.__get__")))
    (ct : PySem.W.takesIn K (.builtin "object.__class__") = some true)
    (mg_Disk : PySem.W.nsIn K mainGlobals "Disk" = some (some (.ref C_Disk)))
    (pg_Disk : PySem.W.plainGet K C_Disk Str.empty = true)
    (hd_Disk : PySem.W.hasDictIn K C_Disk = true)
    (po_Disk : PySem.W.plainOver K C_Disk = true)
    (sa_Disk : PySem.W.findIn K (.ref C_Disk) "__setattr__" = some (some (.builtin "object.__setattr__")))
    (mk_Disk : PySem.W.makesIn K C_Disk = true)
    (kc_Disk : PySem.W.keepIn K (.ref C_Disk) = true)
    (ca_Disk : PySem.W.findIn K (.ref C_Disk) "__class__" = some (some (.builtin "object.__class__")))
    (mo_Disk : PySem.W.mroIn K C_Disk (.type "object") = some true)
    (na_Disk__kept : PySem.W.findIn K (.ref C_Disk) "_kept" = some none)
    (na_Disk__loose : PySem.W.findIn K (.ref C_Disk) "_loose" = some none)
    (a_checksum : PySem.W.nsIn K mainGlobals "checksum" = some (some (.ref f_checksum)))
    (l_checksum : K.lookup f_checksum = some ⟨oc_checksum, od_checksum, .func (PySem.W.fnOf "checksum" "checksum" (defArgs s_checksum) (defBody s_checksum) (defScope s_checksum) .none kV_checksum dc_checksum pm_checksum an_checksum cd_checksum ct_checksum), sl_checksum⟩)
    (c_checksum : PySem.W.codeIn K cd_checksum "checksum" = true)
    (k_checksum : PySem.W.keepIn K (.ref f_checksum) = true)
    (a_seal : PySem.W.nsIn K mainGlobals "seal" = some (some (.ref f_seal)))
    (l_seal : K.lookup f_seal = some ⟨oc_seal, od_seal, .func (PySem.W.fnOf "seal" "seal" (defArgs s_seal) (defBody s_seal) (defScope s_seal) .none kV_seal dc_seal pm_seal an_seal cd_seal ct_seal), sl_seal⟩)
    (c_seal : PySem.W.codeIn K cd_seal "seal" = true)
    (k_seal : PySem.W.keepIn K (.ref f_seal) = true)
    (a_open_seal : PySem.W.nsIn K mainGlobals "open_seal" = some (some (.ref f_open_seal)))
    (l_open_seal : K.lookup f_open_seal = some ⟨oc_open_seal, od_open_seal, .func (PySem.W.fnOf "open_seal" "open_seal" (defArgs s_open_seal) (defBody s_open_seal) (defScope s_open_seal) .none kV_open_seal dc_open_seal pm_open_seal an_open_seal cd_open_seal ct_open_seal), sl_open_seal⟩)
    (c_open_seal : PySem.W.codeIn K cd_open_seal "open_seal" = true)
    (k_open_seal : PySem.W.keepIn K (.ref f_open_seal) = true)
    (a__checksum_bytes : PySem.W.nsIn K mainGlobals "_checksum_bytes" = some (some (.ref f__checksum_bytes)))
    (l__checksum_bytes : K.lookup f__checksum_bytes = some ⟨oc__checksum_bytes, od__checksum_bytes, .func (PySem.W.fnOf "_checksum_bytes" "_checksum_bytes" (defArgs s__checksum_bytes) (defBody s__checksum_bytes) (defScope s__checksum_bytes) .none kV__checksum_bytes dc__checksum_bytes pm__checksum_bytes an__checksum_bytes cd__checksum_bytes ct__checksum_bytes), sl__checksum_bytes⟩)
    (c__checksum_bytes : PySem.W.codeIn K cd__checksum_bytes "_checksum_bytes" = true)
    (k__checksum_bytes : PySem.W.keepIn K (.ref f__checksum_bytes) = true)
    (a_encode_number : PySem.W.nsIn K mainGlobals "encode_number" = some (some (.ref f_encode_number)))
    (l_encode_number : K.lookup f_encode_number = some ⟨oc_encode_number, od_encode_number, .func (PySem.W.fnOf "encode_number" "encode_number" (defArgs s_encode_number) (defBody s_encode_number) (defScope s_encode_number) .none kV_encode_number dc_encode_number pm_encode_number an_encode_number cd_encode_number ct_encode_number), sl_encode_number⟩)
    (c_encode_number : PySem.W.codeIn K cd_encode_number "encode_number" = true)
    (k_encode_number : PySem.W.keepIn K (.ref f_encode_number) = true)
    (a_decode_number : PySem.W.nsIn K mainGlobals "decode_number" = some (some (.ref f_decode_number)))
    (l_decode_number : K.lookup f_decode_number = some ⟨oc_decode_number, od_decode_number, .func (PySem.W.fnOf "decode_number" "decode_number" (defArgs s_decode_number) (defBody s_decode_number) (defScope s_decode_number) (.ref D_decode_number) kV_decode_number dc_decode_number pm_decode_number an_decode_number cd_decode_number ct_decode_number), sl_decode_number⟩)
    (t_decode_number : K.lookup D_decode_number = some ⟨to_decode_number, td_decode_number, .seq ([.int 0 tk0_decode_number] : List Value).toArray tn_decode_number, tl_decode_number⟩)
    (c_decode_number : PySem.W.codeIn K cd_decode_number "decode_number" = true)
    (k_decode_number : PySem.W.keepIn K (.ref f_decode_number) = true)
    (a__check_index : PySem.W.nsIn K mainGlobals "_check_index" = some (some (.ref f__check_index)))
    (l__check_index : K.lookup f__check_index = some ⟨oc__check_index, od__check_index, .func (PySem.W.fnOf "_check_index" "_check_index" (defArgs s__check_index) (defBody s__check_index) (defScope s__check_index) .none kV__check_index dc__check_index pm__check_index an__check_index cd__check_index ct__check_index), sl__check_index⟩)
    (c__check_index : PySem.W.codeIn K cd__check_index "_check_index" = true)
    (k__check_index : PySem.W.keepIn K (.ref f__check_index) = true)
    (a__last_index : PySem.W.nsIn K mainGlobals "_last_index" = some (some (.ref f__last_index)))
    (l__last_index : K.lookup f__last_index = some ⟨oc__last_index, od__last_index, .func (PySem.W.fnOf "_last_index" "_last_index" (defArgs s__last_index) (defBody s__last_index) (defScope s__last_index) .none kV__last_index dc__last_index pm__last_index an__last_index cd__last_index ct__last_index), sl__last_index⟩)
    (c__last_index : PySem.W.codeIn K cd__last_index "_last_index" = true)
    (k__last_index : PySem.W.keepIn K (.ref f__last_index) = true)
    (a_encode_frame : PySem.W.nsIn K mainGlobals "encode_frame" = some (some (.ref f_encode_frame)))
    (l_encode_frame : K.lookup f_encode_frame = some ⟨oc_encode_frame, od_encode_frame, .func (PySem.W.fnOf "encode_frame" "encode_frame" (defArgs s_encode_frame) (defBody s_encode_frame) (defScope s_encode_frame) .none kV_encode_frame dc_encode_frame pm_encode_frame an_encode_frame cd_encode_frame ct_encode_frame), sl_encode_frame⟩)
    (c_encode_frame : PySem.W.codeIn K cd_encode_frame "encode_frame" = true)
    (k_encode_frame : PySem.W.keepIn K (.ref f_encode_frame) = true)
    (a_decode_frame : PySem.W.nsIn K mainGlobals "decode_frame" = some (some (.ref f_decode_frame)))
    (l_decode_frame : K.lookup f_decode_frame = some ⟨oc_decode_frame, od_decode_frame, .func (PySem.W.fnOf "decode_frame" "decode_frame" (defArgs s_decode_frame) (defBody s_decode_frame) (defScope s_decode_frame) (.ref D_decode_frame) kV_decode_frame dc_decode_frame pm_decode_frame an_decode_frame cd_decode_frame ct_decode_frame), sl_decode_frame⟩)
    (t_decode_frame : K.lookup D_decode_frame = some ⟨to_decode_frame, td_decode_frame, .seq ([.int 0 tk0_decode_frame] : List Value).toArray tn_decode_frame, tl_decode_frame⟩)
    (c_decode_frame : PySem.W.codeIn K cd_decode_frame "decode_frame" = true)
    (k_decode_frame : PySem.W.keepIn K (.ref f_decode_frame) = true)
    (a_decode_frames : PySem.W.nsIn K mainGlobals "decode_frames" = some (some (.ref f_decode_frames)))
    (l_decode_frames : K.lookup f_decode_frames = some ⟨oc_decode_frames, od_decode_frames, .func (PySem.W.fnOf "decode_frames" "decode_frames" (defArgs s_decode_frames) (defBody s_decode_frames) (defScope s_decode_frames) .none kV_decode_frames dc_decode_frames pm_decode_frames an_decode_frames cd_decode_frames ct_decode_frames), sl_decode_frames⟩)
    (c_decode_frames : PySem.W.codeIn K cd_decode_frames "decode_frames" = true)
    (k_decode_frames : PySem.W.keepIn K (.ref f_decode_frames) = true)
    (a_Disk_init : PySem.W.findIn K (.ref C_Disk) "__init__" = some (some (.ref f_Disk_init)))
    (i_Disk_init : PySem.W.isFn K (.ref f_Disk_init) = true)
    (l_Disk_init : K.lookup f_Disk_init = some ⟨oc_Disk_init, od_Disk_init, .func (PySem.W.fnOf "__init__" "Disk.__init__" (defArgs s_Disk_init) (defBody s_Disk_init) (defScope s_Disk_init) .none kV_Disk_init dc_Disk_init pm_Disk_init an_Disk_init cd_Disk_init ct_Disk_init), sl_Disk_init⟩)
    (c_Disk_init : PySem.W.codeIn K cd_Disk_init "Disk.__init__" = true)
    (k_Disk_init : PySem.W.keepIn K (.ref f_Disk_init) = true)
    (a_Disk_kept : PySem.W.findIn K (.ref C_Disk) "kept" = some (some (.ref f_Disk_kept)))
    (i_Disk_kept : PySem.W.isFn K (.ref f_Disk_kept) = true)
    (l_Disk_kept : K.lookup f_Disk_kept = some ⟨oc_Disk_kept, od_Disk_kept, .func (PySem.W.fnOf "kept" "Disk.kept" (defArgs s_Disk_kept) (defBody s_Disk_kept) (defScope s_Disk_kept) .none kV_Disk_kept dc_Disk_kept pm_Disk_kept an_Disk_kept cd_Disk_kept ct_Disk_kept), sl_Disk_kept⟩)
    (c_Disk_kept : PySem.W.codeIn K cd_Disk_kept "Disk.kept" = true)
    (k_Disk_kept : PySem.W.keepIn K (.ref f_Disk_kept) = true)
    (a_Disk_loose : PySem.W.findIn K (.ref C_Disk) "loose" = some (some (.ref f_Disk_loose)))
    (i_Disk_loose : PySem.W.isFn K (.ref f_Disk_loose) = true)
    (l_Disk_loose : K.lookup f_Disk_loose = some ⟨oc_Disk_loose, od_Disk_loose, .func (PySem.W.fnOf "loose" "Disk.loose" (defArgs s_Disk_loose) (defBody s_Disk_loose) (defScope s_Disk_loose) .none kV_Disk_loose dc_Disk_loose pm_Disk_loose an_Disk_loose cd_Disk_loose ct_Disk_loose), sl_Disk_loose⟩)
    (c_Disk_loose : PySem.W.codeIn K cd_Disk_loose "Disk.loose" = true)
    (k_Disk_loose : PySem.W.keepIn K (.ref f_Disk_loose) = true)
    (a_Disk_size : PySem.W.findIn K (.ref C_Disk) "size" = some (some (.ref P_Disk_size)))
    (pt_Disk_size : PySem.W.specialIn K (.ref P_Disk_size) "__get__" = some (some (.builtin "property.__get__")))
    (pk_Disk_size : PySem.W.takesIn K (.ref P_Disk_size) = some true)
    (pr_Disk_size : PySem.W.recIn K P_Disk_size "property" = some (.ref f_Disk_size :: rest_Disk_size))
    (l_Disk_size : K.lookup f_Disk_size = some ⟨oc_Disk_size, od_Disk_size, .func (PySem.W.fnOf "size" "Disk.size" (defArgs s_Disk_size) (defBody s_Disk_size) (defScope s_Disk_size) .none kV_Disk_size dc_Disk_size pm_Disk_size an_Disk_size cd_Disk_size ct_Disk_size), sl_Disk_size⟩)
    (c_Disk_size : PySem.W.codeIn K cd_Disk_size "Disk.size" = true)
    (k_Disk_size : PySem.W.keepIn K (.ref f_Disk_size) = true)
    (a_Disk_write : PySem.W.findIn K (.ref C_Disk) "write" = some (some (.ref f_Disk_write)))
    (i_Disk_write : PySem.W.isFn K (.ref f_Disk_write) = true)
    (l_Disk_write : K.lookup f_Disk_write = some ⟨oc_Disk_write, od_Disk_write, .func (PySem.W.fnOf "write" "Disk.write" (defArgs s_Disk_write) (defBody s_Disk_write) (defScope s_Disk_write) .none kV_Disk_write dc_Disk_write pm_Disk_write an_Disk_write cd_Disk_write ct_Disk_write), sl_Disk_write⟩)
    (c_Disk_write : PySem.W.codeIn K cd_Disk_write "Disk.write" = true)
    (k_Disk_write : PySem.W.keepIn K (.ref f_Disk_write) = true)
    (a_Disk_sync : PySem.W.findIn K (.ref C_Disk) "sync" = some (some (.ref f_Disk_sync)))
    (i_Disk_sync : PySem.W.isFn K (.ref f_Disk_sync) = true)
    (l_Disk_sync : K.lookup f_Disk_sync = some ⟨oc_Disk_sync, od_Disk_sync, .func (PySem.W.fnOf "sync" "Disk.sync" (defArgs s_Disk_sync) (defBody s_Disk_sync) (defScope s_Disk_sync) .none kV_Disk_sync dc_Disk_sync pm_Disk_sync an_Disk_sync cd_Disk_sync ct_Disk_sync), sl_Disk_sync⟩)
    (c_Disk_sync : PySem.W.codeIn K cd_Disk_sync "Disk.sync" = true)
    (k_Disk_sync : PySem.W.keepIn K (.ref f_Disk_sync) = true)
    (a_Disk_crash : PySem.W.findIn K (.ref C_Disk) "crash" = some (some (.ref f_Disk_crash)))
    (i_Disk_crash : PySem.W.isFn K (.ref f_Disk_crash) = true)
    (l_Disk_crash : K.lookup f_Disk_crash = some ⟨oc_Disk_crash, od_Disk_crash, .func (PySem.W.fnOf "crash" "Disk.crash" (defArgs s_Disk_crash) (defBody s_Disk_crash) (defScope s_Disk_crash) .none (.ref D_Disk_crash) dc_Disk_crash pm_Disk_crash an_Disk_crash cd_Disk_crash ct_Disk_crash), sl_Disk_crash⟩)
    (t0_Disk_crash : PySem.W.nsIn K D_Disk_crash "keep" = some (some (.int 0 tk0_Disk_crash)))
    (t1_Disk_crash : PySem.W.nsIn K D_Disk_crash "last" = some (some (.none)))
    (c_Disk_crash : PySem.W.codeIn K cd_Disk_crash "Disk.crash" = true)
    (k_Disk_crash : PySem.W.keepIn K (.ref f_Disk_crash) = true)
    (a_Disk_frames : PySem.W.findIn K (.ref C_Disk) "frames" = some (some (.ref f_Disk_frames)))
    (i_Disk_frames : PySem.W.isFn K (.ref f_Disk_frames) = true)
    (l_Disk_frames : K.lookup f_Disk_frames = some ⟨oc_Disk_frames, od_Disk_frames, .func (PySem.W.fnOf "frames" "Disk.frames" (defArgs s_Disk_frames) (defBody s_Disk_frames) (defScope s_Disk_frames) .none kV_Disk_frames dc_Disk_frames pm_Disk_frames an_Disk_frames cd_Disk_frames ct_Disk_frames), sl_Disk_frames⟩)
    (c_Disk_frames : PySem.W.codeIn K cd_Disk_frames "Disk.frames" = true)
    (k_Disk_frames : PySem.W.keepIn K (.ref f_Disk_frames) = true)
    (a_Disk_mend : PySem.W.findIn K (.ref C_Disk) "mend" = some (some (.ref f_Disk_mend)))
    (i_Disk_mend : PySem.W.isFn K (.ref f_Disk_mend) = true)
    (l_Disk_mend : K.lookup f_Disk_mend = some ⟨oc_Disk_mend, od_Disk_mend, .func (PySem.W.fnOf "mend" "Disk.mend" (defArgs s_Disk_mend) (defBody s_Disk_mend) (defScope s_Disk_mend) .none kV_Disk_mend dc_Disk_mend pm_Disk_mend an_Disk_mend cd_Disk_mend ct_Disk_mend), sl_Disk_mend⟩)
    (c_Disk_mend : PySem.W.codeIn K cd_Disk_mend "Disk.mend" = true)
    (k_Disk_mend : PySem.W.keepIn K (.ref f_Disk_mend) = true)
    (a__law_cell : PySem.W.nsIn K mainGlobals "_law_cell" = some (some (.ref f__law_cell)))
    (l__law_cell : K.lookup f__law_cell = some ⟨oc__law_cell, od__law_cell, .func (PySem.W.fnOf "_law_cell" "_law_cell" (defArgs s__law_cell) (defBody s__law_cell) (defScope s__law_cell) .none kV__law_cell dc__law_cell pm__law_cell an__law_cell cd__law_cell ct__law_cell), sl__law_cell⟩)
    (c__law_cell : PySem.W.codeIn K cd__law_cell "_law_cell" = true)
    (k__law_cell : PySem.W.keepIn K (.ref f__law_cell) = true)
    (a__law_draws : PySem.W.nsIn K mainGlobals "_law_draws" = some (some (.ref f__law_draws)))
    (l__law_draws : K.lookup f__law_draws = some ⟨oc__law_draws, od__law_draws, .func (PySem.W.fnOf "_law_draws" "_law_draws" (defArgs s__law_draws) (defBody s__law_draws) (defScope s__law_draws) .none kV__law_draws dc__law_draws pm__law_draws an__law_draws cd__law_draws ct__law_draws), sl__law_draws⟩)
    (c__law_draws : PySem.W.codeIn K cd__law_draws "_law_draws" = true)
    (k__law_draws : PySem.W.keepIn K (.ref f__law_draws) = true)
    (a__law_block : PySem.W.nsIn K mainGlobals "_law_block" = some (some (.ref f__law_block)))
    (l__law_block : K.lookup f__law_block = some ⟨oc__law_block, od__law_block, .func (PySem.W.fnOf "_law_block" "_law_block" (defArgs s__law_block) (defBody s__law_block) (defScope s__law_block) .none kV__law_block dc__law_block pm__law_block an__law_block cd__law_block ct__law_block), sl__law_block⟩)
    (c__law_block : PySem.W.codeIn K cd__law_block "_law_block" = true)
    (k__law_block : PySem.W.keepIn K (.ref f__law_block) = true)
    (a__law_varint : PySem.W.nsIn K mainGlobals "_law_varint" = some (some (.ref f__law_varint)))
    (l__law_varint : K.lookup f__law_varint = some ⟨oc__law_varint, od__law_varint, .func (PySem.W.fnOf "_law_varint" "_law_varint" (defArgs s__law_varint) (defBody s__law_varint) (defScope s__law_varint) .none kV__law_varint dc__law_varint pm__law_varint an__law_varint cd__law_varint ct__law_varint), sl__law_varint⟩)
    (c__law_varint : PySem.W.codeIn K cd__law_varint "_law_varint" = true)
    (k__law_varint : PySem.W.keepIn K (.ref f__law_varint) = true)
    (a__law_sum : PySem.W.nsIn K mainGlobals "_law_sum" = some (some (.ref f__law_sum)))
    (l__law_sum : K.lookup f__law_sum = some ⟨oc__law_sum, od__law_sum, .func (PySem.W.fnOf "_law_sum" "_law_sum" (defArgs s__law_sum) (defBody s__law_sum) (defScope s__law_sum) .none kV__law_sum dc__law_sum pm__law_sum an__law_sum cd__law_sum ct__law_sum), sl__law_sum⟩)
    (c__law_sum : PySem.W.codeIn K cd__law_sum "_law_sum" = true)
    (k__law_sum : PySem.W.keepIn K (.ref f__law_sum) = true)
    (a__law_sealed : PySem.W.nsIn K mainGlobals "_law_sealed" = some (some (.ref f__law_sealed)))
    (l__law_sealed : K.lookup f__law_sealed = some ⟨oc__law_sealed, od__law_sealed, .func (PySem.W.fnOf "_law_sealed" "_law_sealed" (defArgs s__law_sealed) (defBody s__law_sealed) (defScope s__law_sealed) .none kV__law_sealed dc__law_sealed pm__law_sealed an__law_sealed cd__law_sealed ct__law_sealed), sl__law_sealed⟩)
    (c__law_sealed : PySem.W.codeIn K cd__law_sealed "_law_sealed" = true)
    (k__law_sealed : PySem.W.keepIn K (.ref f__law_sealed) = true)
    (a__law_frame : PySem.W.nsIn K mainGlobals "_law_frame" = some (some (.ref f__law_frame)))
    (l__law_frame : K.lookup f__law_frame = some ⟨oc__law_frame, od__law_frame, .func (PySem.W.fnOf "_law_frame" "_law_frame" (defArgs s__law_frame) (defBody s__law_frame) (defScope s__law_frame) .none kV__law_frame dc__law_frame pm__law_frame an__law_frame cd__law_frame ct__law_frame), sl__law_frame⟩)
    (c__law_frame : PySem.W.codeIn K cd__law_frame "_law_frame" = true)
    (k__law_frame : PySem.W.keepIn K (.ref f__law_frame) = true)
    (a__law_refused : PySem.W.nsIn K mainGlobals "_law_refused" = some (some (.ref f__law_refused)))
    (l__law_refused : K.lookup f__law_refused = some ⟨oc__law_refused, od__law_refused, .func (PySem.W.fnOf "_law_refused" "_law_refused" (defArgs s__law_refused) (defBody s__law_refused) (defScope s__law_refused) .none kV__law_refused dc__law_refused pm__law_refused an__law_refused cd__law_refused ct__law_refused), sl__law_refused⟩)
    (c__law_refused : PySem.W.codeIn K cd__law_refused "_law_refused" = true)
    (k__law_refused : PySem.W.keepIn K (.ref f__law_refused) = true)
    (a__law_stands : PySem.W.nsIn K mainGlobals "_law_stands" = some (some (.ref f__law_stands)))
    (l__law_stands : K.lookup f__law_stands = some ⟨oc__law_stands, od__law_stands, .func (PySem.W.fnOf "_law_stands" "_law_stands" (defArgs s__law_stands) (defBody s__law_stands) (defScope s__law_stands) .none kV__law_stands dc__law_stands pm__law_stands an__law_stands cd__law_stands ct__law_stands), sl__law_stands⟩)
    (c__law_stands : PySem.W.codeIn K cd__law_stands "_law_stands" = true)
    (k__law_stands : PySem.W.keepIn K (.ref f__law_stands) = true)
    (a__law_survivors : PySem.W.nsIn K mainGlobals "_law_survivors" = some (some (.ref f__law_survivors)))
    (l__law_survivors : K.lookup f__law_survivors = some ⟨oc__law_survivors, od__law_survivors, .func (PySem.W.fnOf "_law_survivors" "_law_survivors" (defArgs s__law_survivors) (defBody s__law_survivors) (defScope s__law_survivors) .none kV__law_survivors dc__law_survivors pm__law_survivors an__law_survivors cd__law_survivors ct__law_survivors), sl__law_survivors⟩)
    (c__law_survivors : PySem.W.codeIn K cd__law_survivors "_law_survivors" = true)
    (k__law_survivors : PySem.W.keepIn K (.ref f__law_survivors) = true)
    (a_law : PySem.W.nsIn K mainGlobals "law" = some (some (.ref f_law)))
    (l_law : K.lookup f_law = some ⟨oc_law, od_law, .func (PySem.W.fnOf "law" "law" (defArgs s_law) (defBody s_law) (defScope s_law) .none kV_law dc_law pm_law an_law cd_law ct_law), sl_law⟩)
    (c_law : PySem.W.codeIn K cd_law "law" = true)
    (k_law : PySem.W.keepIn K (.ref f_law) = true)
    (z_len : PySem.W.nsIn K mainGlobals "len" = some none)
    (z_list : PySem.W.nsIn K mainGlobals "list" = some none)
    (z_property : PySem.W.nsIn K mainGlobals "property" = some none)
    (z_abs : PySem.W.nsIn K mainGlobals "abs" = some none)
    (z_int : PySem.W.nsIn K mainGlobals "int" = some none)
    (z_range : PySem.W.nsIn K mainGlobals "range" = some none)
    (z_isinstance : PySem.W.nsIn K mainGlobals "isinstance" = some none)
    (z_min : PySem.W.nsIn K mainGlobals "min" = some none) :
    ∃ fd : FuncData, (∀ (s : Shared) (v : Value), BindsTo s fd ⟨[v], []⟩ [("script", v)]) ∧ ∀ base : Heap, K.In base → base.Ns mainGlobals mg → FnOk l.prog w K mg base CX0 10 fa fd ["script"] (spLaw K) := by
  have e : f_law = fa := (Value.ref.inj (Option.some.inj (hfa.symm.trans (PySem.W.mg_of X G a_law)))).symm
  subst e
  have G_decode_number : FunD K "decode_number" "decode_number" (defArgs s_decode_number) (defBody s_decode_number) (defScope s_decode_number) [.int 0] [] f_decode_number _ := ⟨⟨_, _, _, _, _, _, _, _, _, _, rfl, l_decode_number, c_decode_number, .inr ⟨by simp, D_decode_number, _, _, _, rfl, t_decode_number, rfl, (.cons ⟨_, rfl⟩ .nil)⟩, .inl rfl⟩, k_decode_number⟩
  have B1_decode_number := G_decode_number.binds1 (ps := ["block", "at"]) 1 0 (by simp) rfl fun _ _ _ _ _ _ _ us its hu hi => match us, its, hu, hi with | [_], [_], _, _ => ⟨_, rfl, rfl⟩
  have B2_decode_number := G_decode_number.binds1 (ps := ["block", "at"]) 2 1 (by simp) rfl fun _ _ _ _ _ _ _ us its hu hi => match us, its, hu, hi with | [_, _], [_], _, _ => ⟨_, rfl, rfl⟩
  have G_decode_frame : FunD K "decode_frame" "decode_frame" (defArgs s_decode_frame) (defBody s_decode_frame) (defScope s_decode_frame) [.int 0] [] f_decode_frame _ := ⟨⟨_, _, _, _, _, _, _, _, _, _, rfl, l_decode_frame, c_decode_frame, .inr ⟨by simp, D_decode_frame, _, _, _, rfl, t_decode_frame, rfl, (.cons ⟨_, rfl⟩ .nil)⟩, .inl rfl⟩, k_decode_frame⟩
  have B1_decode_frame := G_decode_frame.binds1 (ps := ["block", "at"]) 1 0 (by simp) rfl fun _ _ _ _ _ _ _ us its hu hi => match us, its, hu, hi with | [_], [_], _, _ => ⟨_, rfl, rfl⟩
  have B2_decode_frame := G_decode_frame.binds1 (ps := ["block", "at"]) 2 1 (by simp) rfl fun _ _ _ _ _ _ _ us its hu hi => match us, its, hu, hi with | [_, _], [_], _, _ => ⟨_, rfl, rfl⟩
  have G_Disk_crash : FunD K "crash" "Disk.crash" (defArgs s_Disk_crash) (defBody s_Disk_crash) (defScope s_Disk_crash) [] [("keep", .int 0), ("last", .non)] f_Disk_crash _ := ⟨⟨_, _, _, _, _, _, _, _, _, _, rfl, l_Disk_crash, c_Disk_crash, .inl ⟨rfl, rfl⟩, .inr ⟨D_Disk_crash, rfl, fun qq hq => by
      rcases List.mem_cons.mp hq with rfl | hq
      · exact ⟨_, t0_Disk_crash, ⟨_, rfl⟩⟩
      rcases List.mem_cons.mp hq with rfl | hq
      · exact ⟨_, t1_Disk_crash, rfl⟩
      cases hq⟩⟩, k_Disk_crash⟩
  have B0_Disk_crash := G_Disk_crash.binds0 (ps := ["self", "keep", "last"]) 1 (by simp) rfl fun _ _ _ _ _ _ us ks hu hk => match us, ks, hu, hk with | [_], [_, _], _, _ => ⟨_, _, _, _, _, _, rfl, rfl, _, _, _, _, _, _, rfl, rfl, rfl⟩
  have KB_Disk_crash := G_Disk_crash.kbinds0 (ps := ["self", "keep", "last"]) 1 ["keep", "last"] [] (fun us _ ws => us ++ ws) (by simp) (by simp) (fun r1 _ r3 => r1.append r3) fun _ _ _ _ _ _ us mv ws hu _ hw => match us, ws, hu, hw with | [_], [_, _], _, _ => rfl
  let T : Env K mg := {
    c_MeridianError := C_MeridianError,
    c_BadArgument := C_BadArgument,
    c_BadBytes := C_BadBytes,
    c_BadSeal := C_BadSeal,
    a_Disk := C_Disk,
    a_checksum := f_checksum,
    d_checksum := _,
    F_checksum := fun_mk (st := s_checksum) l_checksum c_checksum k_checksum,
    b_checksum := (fun_mk (st := s_checksum) l_checksum c_checksum k_checksum).binds (ps := ["block"]) fun _ _ _ _ _ _ us hl => match us, hl with | [_], _ => rfl,
    g_checksum := PySem.W.mg_of X G a_checksum,
    a_seal := f_seal,
    d_seal := _,
    F_seal := fun_mk (st := s_seal) l_seal c_seal k_seal,
    b_seal := (fun_mk (st := s_seal) l_seal c_seal k_seal).binds (ps := ["block"]) fun _ _ _ _ _ _ us hl => match us, hl with | [_], _ => rfl,
    g_seal := PySem.W.mg_of X G a_seal,
    a_open_seal := f_open_seal,
    d_open_seal := _,
    F_open_seal := fun_mk (st := s_open_seal) l_open_seal c_open_seal k_open_seal,
    b_open_seal := (fun_mk (st := s_open_seal) l_open_seal c_open_seal k_open_seal).binds (ps := ["block"]) fun _ _ _ _ _ _ us hl => match us, hl with | [_], _ => rfl,
    g_open_seal := PySem.W.mg_of X G a_open_seal,
    a__checksum_bytes := f__checksum_bytes,
    d__checksum_bytes := _,
    F__checksum_bytes := fun_mk (st := s__checksum_bytes) l__checksum_bytes c__checksum_bytes k__checksum_bytes,
    b__checksum_bytes := (fun_mk (st := s__checksum_bytes) l__checksum_bytes c__checksum_bytes k__checksum_bytes).binds (ps := ["block"]) fun _ _ _ _ _ _ us hl => match us, hl with | [_], _ => rfl,
    g__checksum_bytes := PySem.W.mg_of X G a__checksum_bytes,
    a_encode_number := f_encode_number,
    d_encode_number := _,
    F_encode_number := fun_mk (st := s_encode_number) l_encode_number c_encode_number k_encode_number,
    b_encode_number := (fun_mk (st := s_encode_number) l_encode_number c_encode_number k_encode_number).binds (ps := ["number"]) fun _ _ _ _ _ _ us hl => match us, hl with | [_], _ => rfl,
    g_encode_number := PySem.W.mg_of X G a_encode_number,
    a_decode_number := f_decode_number,
    d_decode_number := _,
    F_decode_number := G_decode_number,
    w1_decode_number := B1_decode_number.choose,
    v1_decode_number := B1_decode_number.choose_spec.1,
    b1_decode_number := B1_decode_number.choose_spec.2,
    w2_decode_number := B2_decode_number.choose,
    v2_decode_number := B2_decode_number.choose_spec.1,
    b2_decode_number := B2_decode_number.choose_spec.2,
    g_decode_number := PySem.W.mg_of X G a_decode_number,
    a__check_index := f__check_index,
    d__check_index := _,
    F__check_index := fun_mk (st := s__check_index) l__check_index c__check_index k__check_index,
    b__check_index := (fun_mk (st := s__check_index) l__check_index c__check_index k__check_index).binds (ps := ["block", "at"]) fun _ _ _ _ _ _ us hl => match us, hl with | [_, _], _ => rfl,
    g__check_index := PySem.W.mg_of X G a__check_index,
    a__last_index := f__last_index,
    d__last_index := _,
    F__last_index := fun_mk (st := s__last_index) l__last_index c__last_index k__last_index,
    b__last_index := (fun_mk (st := s__last_index) l__last_index c__last_index k__last_index).binds (ps := ["block", "at"]) fun _ _ _ _ _ _ us hl => match us, hl with | [_, _], _ => rfl,
    g__last_index := PySem.W.mg_of X G a__last_index,
    a_encode_frame := f_encode_frame,
    d_encode_frame := _,
    F_encode_frame := fun_mk (st := s_encode_frame) l_encode_frame c_encode_frame k_encode_frame,
    b_encode_frame := (fun_mk (st := s_encode_frame) l_encode_frame c_encode_frame k_encode_frame).binds (ps := ["block"]) fun _ _ _ _ _ _ us hl => match us, hl with | [_], _ => rfl,
    g_encode_frame := PySem.W.mg_of X G a_encode_frame,
    a_decode_frame := f_decode_frame,
    d_decode_frame := _,
    F_decode_frame := G_decode_frame,
    w1_decode_frame := B1_decode_frame.choose,
    v1_decode_frame := B1_decode_frame.choose_spec.1,
    b1_decode_frame := B1_decode_frame.choose_spec.2,
    w2_decode_frame := B2_decode_frame.choose,
    v2_decode_frame := B2_decode_frame.choose_spec.1,
    b2_decode_frame := B2_decode_frame.choose_spec.2,
    g_decode_frame := PySem.W.mg_of X G a_decode_frame,
    a_decode_frames := f_decode_frames,
    d_decode_frames := _,
    F_decode_frames := fun_mk (st := s_decode_frames) l_decode_frames c_decode_frames k_decode_frames,
    b_decode_frames := (fun_mk (st := s_decode_frames) l_decode_frames c_decode_frames k_decode_frames).binds (ps := ["block"]) fun _ _ _ _ _ _ us hl => match us, hl with | [_], _ => rfl,
    g_decode_frames := PySem.W.mg_of X G a_decode_frames,
    a_Disk_init := f_Disk_init,
    d_Disk_init := _,
    F_Disk_init := fun_mk (st := s_Disk_init) l_Disk_init c_Disk_init k_Disk_init,
    b_Disk_init := (fun_mk (st := s_Disk_init) l_Disk_init c_Disk_init k_Disk_init).binds (ps := ["self"]) fun _ _ _ _ _ _ us hl => match us, hl with | [_], _ => rfl,
    a_Disk_kept := f_Disk_kept,
    d_Disk_kept := _,
    F_Disk_kept := fun_mk (st := s_Disk_kept) l_Disk_kept c_Disk_kept k_Disk_kept,
    b_Disk_kept := (fun_mk (st := s_Disk_kept) l_Disk_kept c_Disk_kept k_Disk_kept).binds (ps := ["self"]) fun _ _ _ _ _ _ us hl => match us, hl with | [_], _ => rfl,
    a_Disk_loose := f_Disk_loose,
    d_Disk_loose := _,
    F_Disk_loose := fun_mk (st := s_Disk_loose) l_Disk_loose c_Disk_loose k_Disk_loose,
    b_Disk_loose := (fun_mk (st := s_Disk_loose) l_Disk_loose c_Disk_loose k_Disk_loose).binds (ps := ["self"]) fun _ _ _ _ _ _ us hl => match us, hl with | [_], _ => rfl,
    a_Disk_size := f_Disk_size,
    d_Disk_size := _,
    F_Disk_size := fun_mk (st := s_Disk_size) l_Disk_size c_Disk_size k_Disk_size,
    b_Disk_size := (fun_mk (st := s_Disk_size) l_Disk_size c_Disk_size k_Disk_size).binds (ps := ["self"]) fun _ _ _ _ _ _ us hl => match us, hl with | [_], _ => rfl,
    a_Disk_write := f_Disk_write,
    d_Disk_write := _,
    F_Disk_write := fun_mk (st := s_Disk_write) l_Disk_write c_Disk_write k_Disk_write,
    b_Disk_write := (fun_mk (st := s_Disk_write) l_Disk_write c_Disk_write k_Disk_write).binds (ps := ["self", "block"]) fun _ _ _ _ _ _ us hl => match us, hl with | [_, _], _ => rfl,
    a_Disk_sync := f_Disk_sync,
    d_Disk_sync := _,
    F_Disk_sync := fun_mk (st := s_Disk_sync) l_Disk_sync c_Disk_sync k_Disk_sync,
    b_Disk_sync := (fun_mk (st := s_Disk_sync) l_Disk_sync c_Disk_sync k_Disk_sync).binds (ps := ["self"]) fun _ _ _ _ _ _ us hl => match us, hl with | [_], _ => rfl,
    a_Disk_crash := f_Disk_crash,
    d_Disk_crash := _,
    F_Disk_crash := G_Disk_crash,
    K_Disk_crash := KB_Disk_crash.choose_spec,
    w0_Disk_crash := B0_Disk_crash.choose,
    v0_Disk_crash := B0_Disk_crash.choose_spec.1,
    b0_Disk_crash := B0_Disk_crash.choose_spec.2,
    a_Disk_frames := f_Disk_frames,
    d_Disk_frames := _,
    F_Disk_frames := fun_mk (st := s_Disk_frames) l_Disk_frames c_Disk_frames k_Disk_frames,
    b_Disk_frames := (fun_mk (st := s_Disk_frames) l_Disk_frames c_Disk_frames k_Disk_frames).binds (ps := ["self"]) fun _ _ _ _ _ _ us hl => match us, hl with | [_], _ => rfl,
    a_Disk_mend := f_Disk_mend,
    d_Disk_mend := _,
    F_Disk_mend := fun_mk (st := s_Disk_mend) l_Disk_mend c_Disk_mend k_Disk_mend,
    b_Disk_mend := (fun_mk (st := s_Disk_mend) l_Disk_mend c_Disk_mend k_Disk_mend).binds (ps := ["self"]) fun _ _ _ _ _ _ us hl => match us, hl with | [_], _ => rfl,
    a__law_cell := f__law_cell,
    d__law_cell := _,
    F__law_cell := fun_mk (st := s__law_cell) l__law_cell c__law_cell k__law_cell,
    b__law_cell := (fun_mk (st := s__law_cell) l__law_cell c__law_cell k__law_cell).binds (ps := ["script", "k"]) fun _ _ _ _ _ _ us hl => match us, hl with | [_, _], _ => rfl,
    g__law_cell := PySem.W.mg_of X G a__law_cell,
    a__law_draws := f__law_draws,
    d__law_draws := _,
    F__law_draws := fun_mk (st := s__law_draws) l__law_draws c__law_draws k__law_draws,
    b__law_draws := (fun_mk (st := s__law_draws) l__law_draws c__law_draws k__law_draws).binds (ps := ["cell", "many", "limit"]) fun _ _ _ _ _ _ us hl => match us, hl with | [_, _, _], _ => rfl,
    g__law_draws := PySem.W.mg_of X G a__law_draws,
    a__law_block := f__law_block,
    d__law_block := _,
    F__law_block := fun_mk (st := s__law_block) l__law_block c__law_block k__law_block,
    b__law_block := (fun_mk (st := s__law_block) l__law_block c__law_block k__law_block).binds (ps := ["cell", "many"]) fun _ _ _ _ _ _ us hl => match us, hl with | [_, _], _ => rfl,
    g__law_block := PySem.W.mg_of X G a__law_block,
    a__law_varint := f__law_varint,
    d__law_varint := _,
    F__law_varint := fun_mk (st := s__law_varint) l__law_varint c__law_varint k__law_varint,
    b__law_varint := (fun_mk (st := s__law_varint) l__law_varint c__law_varint k__law_varint).binds (ps := ["number"]) fun _ _ _ _ _ _ us hl => match us, hl with | [_], _ => rfl,
    g__law_varint := PySem.W.mg_of X G a__law_varint,
    a__law_sum := f__law_sum,
    d__law_sum := _,
    F__law_sum := fun_mk (st := s__law_sum) l__law_sum c__law_sum k__law_sum,
    b__law_sum := (fun_mk (st := s__law_sum) l__law_sum c__law_sum k__law_sum).binds (ps := ["block"]) fun _ _ _ _ _ _ us hl => match us, hl with | [_], _ => rfl,
    g__law_sum := PySem.W.mg_of X G a__law_sum,
    a__law_sealed := f__law_sealed,
    d__law_sealed := _,
    F__law_sealed := fun_mk (st := s__law_sealed) l__law_sealed c__law_sealed k__law_sealed,
    b__law_sealed := (fun_mk (st := s__law_sealed) l__law_sealed c__law_sealed k__law_sealed).binds (ps := ["block"]) fun _ _ _ _ _ _ us hl => match us, hl with | [_], _ => rfl,
    g__law_sealed := PySem.W.mg_of X G a__law_sealed,
    a__law_frame := f__law_frame,
    d__law_frame := _,
    F__law_frame := fun_mk (st := s__law_frame) l__law_frame c__law_frame k__law_frame,
    b__law_frame := (fun_mk (st := s__law_frame) l__law_frame c__law_frame k__law_frame).binds (ps := ["block"]) fun _ _ _ _ _ _ us hl => match us, hl with | [_], _ => rfl,
    g__law_frame := PySem.W.mg_of X G a__law_frame,
    a__law_refused := f__law_refused,
    d__law_refused := _,
    F__law_refused := fun_mk (st := s__law_refused) l__law_refused c__law_refused k__law_refused,
    b__law_refused := (fun_mk (st := s__law_refused) l__law_refused c__law_refused k__law_refused).binds (ps := ["disk", "count", "byte"]) fun _ _ _ _ _ _ us hl => match us, hl with | [_, _, _], _ => rfl,
    g__law_refused := PySem.W.mg_of X G a__law_refused,
    a__law_stands := f__law_stands,
    d__law_stands := _,
    F__law_stands := fun_mk (st := s__law_stands) l__law_stands c__law_stands k__law_stands,
    b__law_stands := (fun_mk (st := s__law_stands) l__law_stands c__law_stands k__law_stands).binds (ps := ["disk", "safe", "waiting", "blocks"]) fun _ _ _ _ _ _ us hl => match us, hl with | [_, _, _, _], _ => rfl,
    g__law_stands := PySem.W.mg_of X G a__law_stands,
    a__law_survivors := f__law_survivors,
    d__law_survivors := _,
    F__law_survivors := fun_mk (st := s__law_survivors) l__law_survivors c__law_survivors k__law_survivors,
    b__law_survivors := (fun_mk (st := s__law_survivors) l__law_survivors c__law_survivors k__law_survivors).binds (ps := ["written", "count", "torn"]) fun _ _ _ _ _ _ us hl => match us, hl with | [_, _, _], _ => rfl,
    g__law_survivors := PySem.W.mg_of X G a__law_survivors,
    a_law := f_law,
    d_law := _,
    F_law := fun_mk (st := s_law) l_law c_law k_law,
    b_law := (fun_mk (st := s_law) l_law c_law k_law).binds (ps := ["script"]) fun _ _ _ _ _ _ us hl => match us, hl with | [_], _ => rfl,
    e_MeridianError := ⟨PySem.W.mg_of X G mg_MeridianError, x_MeridianError, kc_MeridianError, bp_MeridianError, tp_MeridianError, ip_MeridianError, ⟨ga_MeridianError, gt_MeridianError, bp_MeridianError, hd_MeridianError, ca_MeridianError, cn, ct, mo_MeridianError⟩, kit_ty_sub ve_MeridianError (by decide +kernel)⟩,
    u_MeridianError_MeridianError := PySem.W.exm_ref bp_MeridianError hd_MeridianError tp_MeridianError u_MeridianError_MeridianError,
    q_MeridianError_MeridianError := kit_own u_MeridianError_MeridianError u_MeridianError_MeridianError ip_MeridianError tp_MeridianError,
    u_MeridianError_BadArgument := PySem.W.exm_ref bp_BadArgument hd_BadArgument tp_BadArgument u_MeridianError_BadArgument,
    q_MeridianError_BadArgument := kit_own u_MeridianError_BadArgument u_MeridianError_MeridianError ip_BadArgument tp_BadArgument,
    u_MeridianError_BadBytes := PySem.W.exm_ref bp_BadBytes hd_BadBytes tp_BadBytes u_MeridianError_BadBytes,
    q_MeridianError_BadBytes := kit_own u_MeridianError_BadBytes u_MeridianError_MeridianError ip_BadBytes tp_BadBytes,
    u_MeridianError_BadSeal := PySem.W.exm_ref bp_BadSeal hd_BadSeal tp_BadSeal u_MeridianError_BadSeal,
    q_MeridianError_BadSeal := kit_own u_MeridianError_BadSeal u_MeridianError_MeridianError ip_BadSeal tp_BadSeal,
    e_BadArgument := ⟨PySem.W.mg_of X G mg_BadArgument, x_BadArgument, kc_BadArgument, bp_BadArgument, tp_BadArgument, ip_BadArgument, ⟨ga_BadArgument, gt_BadArgument, bp_BadArgument, hd_BadArgument, ca_BadArgument, cn, ct, mo_BadArgument⟩, kit_ty_sub ve_BadArgument (by decide +kernel)⟩,
    u_BadArgument_MeridianError := PySem.W.exm_ref bp_MeridianError hd_MeridianError tp_MeridianError u_BadArgument_MeridianError,
    q_BadArgument_MeridianError := kit_own u_BadArgument_MeridianError u_BadArgument_BadArgument ip_MeridianError tp_MeridianError,
    u_BadArgument_BadArgument := PySem.W.exm_ref bp_BadArgument hd_BadArgument tp_BadArgument u_BadArgument_BadArgument,
    q_BadArgument_BadArgument := kit_own u_BadArgument_BadArgument u_BadArgument_BadArgument ip_BadArgument tp_BadArgument,
    u_BadArgument_BadBytes := PySem.W.exm_ref bp_BadBytes hd_BadBytes tp_BadBytes u_BadArgument_BadBytes,
    q_BadArgument_BadBytes := kit_own u_BadArgument_BadBytes u_BadArgument_BadArgument ip_BadBytes tp_BadBytes,
    u_BadArgument_BadSeal := PySem.W.exm_ref bp_BadSeal hd_BadSeal tp_BadSeal u_BadArgument_BadSeal,
    q_BadArgument_BadSeal := kit_own u_BadArgument_BadSeal u_BadArgument_BadArgument ip_BadSeal tp_BadSeal,
    e_BadBytes := ⟨PySem.W.mg_of X G mg_BadBytes, x_BadBytes, kc_BadBytes, bp_BadBytes, tp_BadBytes, ip_BadBytes, ⟨ga_BadBytes, gt_BadBytes, bp_BadBytes, hd_BadBytes, ca_BadBytes, cn, ct, mo_BadBytes⟩, kit_ty_sub ve_BadBytes (by decide +kernel)⟩,
    u_BadBytes_MeridianError := PySem.W.exm_ref bp_MeridianError hd_MeridianError tp_MeridianError u_BadBytes_MeridianError,
    q_BadBytes_MeridianError := kit_own u_BadBytes_MeridianError u_BadBytes_BadBytes ip_MeridianError tp_MeridianError,
    u_BadBytes_BadArgument := PySem.W.exm_ref bp_BadArgument hd_BadArgument tp_BadArgument u_BadBytes_BadArgument,
    q_BadBytes_BadArgument := kit_own u_BadBytes_BadArgument u_BadBytes_BadBytes ip_BadArgument tp_BadArgument,
    u_BadBytes_BadBytes := PySem.W.exm_ref bp_BadBytes hd_BadBytes tp_BadBytes u_BadBytes_BadBytes,
    q_BadBytes_BadBytes := kit_own u_BadBytes_BadBytes u_BadBytes_BadBytes ip_BadBytes tp_BadBytes,
    u_BadBytes_BadSeal := PySem.W.exm_ref bp_BadSeal hd_BadSeal tp_BadSeal u_BadBytes_BadSeal,
    q_BadBytes_BadSeal := kit_own u_BadBytes_BadSeal u_BadBytes_BadBytes ip_BadSeal tp_BadSeal,
    e_BadSeal := ⟨PySem.W.mg_of X G mg_BadSeal, x_BadSeal, kc_BadSeal, bp_BadSeal, tp_BadSeal, ip_BadSeal, ⟨ga_BadSeal, gt_BadSeal, bp_BadSeal, hd_BadSeal, ca_BadSeal, cn, ct, mo_BadSeal⟩, kit_ty_sub ve_BadSeal (by decide +kernel)⟩,
    u_BadSeal_MeridianError := PySem.W.exm_ref bp_MeridianError hd_MeridianError tp_MeridianError u_BadSeal_MeridianError,
    q_BadSeal_MeridianError := kit_own u_BadSeal_MeridianError u_BadSeal_BadSeal ip_MeridianError tp_MeridianError,
    u_BadSeal_BadArgument := PySem.W.exm_ref bp_BadArgument hd_BadArgument tp_BadArgument u_BadSeal_BadArgument,
    q_BadSeal_BadArgument := kit_own u_BadSeal_BadArgument u_BadSeal_BadSeal ip_BadArgument tp_BadArgument,
    u_BadSeal_BadBytes := PySem.W.exm_ref bp_BadBytes hd_BadBytes tp_BadBytes u_BadSeal_BadBytes,
    q_BadSeal_BadBytes := kit_own u_BadSeal_BadBytes u_BadSeal_BadSeal ip_BadBytes tp_BadBytes,
    u_BadSeal_BadSeal := PySem.W.exm_ref bp_BadSeal hd_BadSeal tp_BadSeal u_BadSeal_BadSeal,
    q_BadSeal_BadSeal := kit_own u_BadSeal_BadSeal u_BadSeal_BadSeal ip_BadSeal tp_BadSeal,
    k_Disk := ⟨⟨pg_Disk, hd_Disk, po_Disk, sa_Disk⟩, PySem.W.mg_of X G mg_Disk, ca_Disk, cn, ct, mo_Disk⟩,
    n_Disk__kept := na_Disk__kept,
    n_Disk__loose := na_Disk__loose,
    M_Disk := ⟨mk_Disk, a_Disk_init, i_Disk_init, kc_Disk⟩,
    m_Disk_kept := ⟨a_Disk_kept, i_Disk_kept, k_Disk_kept⟩,
    m_Disk_loose := ⟨a_Disk_loose, i_Disk_loose, k_Disk_loose⟩,
    p_Disk_size := P_Disk_size,
    m_Disk_size := ⟨a_Disk_size, pt_Disk_size, pk_Disk_size, ⟨_, pr_Disk_size⟩⟩,
    m_Disk_write := ⟨a_Disk_write, i_Disk_write, k_Disk_write⟩,
    m_Disk_sync := ⟨a_Disk_sync, i_Disk_sync, k_Disk_sync⟩,
    m_Disk_crash := ⟨a_Disk_crash, i_Disk_crash, k_Disk_crash⟩,
    m_Disk_frames := ⟨a_Disk_frames, i_Disk_frames, k_Disk_frames⟩,
    m_Disk_mend := ⟨a_Disk_mend, i_Disk_mend, k_Disk_mend⟩,
    z_len := PySem.W.mg_none_of X G z_len,
    z_list := PySem.W.mg_none_of X G z_list,
    z_property := PySem.W.mg_none_of X G z_property,
    z_abs := PySem.W.mg_none_of X G z_abs,
    z_int := PySem.W.mg_none_of X G z_int,
    z_range := PySem.W.mg_none_of X G z_range,
    z_isinstance := PySem.W.mg_none_of X G z_isinstance,
    z_min := PySem.W.mg_none_of X G z_min }
  exact ⟨PySem.W.fnOf "law" "law" (defArgs s_law) (defBody s_law) (defScope s_law) .none kV_law dc_law pm_law an_law cd_law ct_law, fun s v => .of_eq rfl, fun base _ _ => ok_law T⟩
theorem walk {l : PySem.W.OpenLaw} {q : Program} {loose : List Str} {XP : (Str → Option Value) → Heap → Prop} {YP : World → Heap → Prop} {d : DefRec} {K : Params → PySem.W.Frag} (hn : l.most = some 63) (hdf : d.params.defaults = [])
    (hY : ∀ (w : World) (h : Heap), YP w h → (K w.params).In h)
    (F : ∀ (w : World) (mg : Str → Option Value) (fa : Addr) (h : Heap), (K w.params).In h → h.Ns mainGlobals mg → mg d.name = some (.ref fa) →
      ∃ fd : FuncData, (∀ (s : Shared) (u : Value), BindsTo s fd ⟨[u], []⟩ [("script", u)]) ∧ ∀ base : Heap, (K w.params).In base → base.Ns mainGlobals mg → FnOk l.prog w (K w.params) mg base CX0 10 fa fd ["script"] (spLaw (K w.params))) :
    PySem.W.WalkO q loose XP YP l.row.toRowW d [] (fun f vs => PySem.call f vs) :=
  L2.walk_of (n := 63) (k := 10) (x := "script") (CX := fun _ => CX0) (sp := fun w => spLaw (K w.params)) hn (by decide) hdf ⟨rfl, by decide, by decide⟩ hY F (fun _ _ a ns hl _ hS => ⟨a, ns, rfl, hS, hl, fun _ => rfl⟩) fun _ _ _ _ _ z => z
end Dv
open PySem PySem.W PyProof.Rows in
set_option maxRecDepth 100000 in
set_option maxHeartbeats 0 in
theorem PySem.Challenge.cw_meridian_k09_disk_after_crash_holds : PySem.Challenge.rw_meridian_k09_disk_after_crash.Holds := by
  w_on; o_law; k_head; (case hw => w_witness2)
  k_fill
  refine Dv.walk (l := PySem.Challenge.rw_meridian_k09_disk_after_crash) rfl rfl (fun w h Y => PySem.W.kIn_of Y) ?F
  case F =>
    intro w mg fa h KX G hmg
    refine' Dv.all_mk KX G hmg ?mg_MeridianError ?x_MeridianError ?kc_MeridianError ?bp_MeridianError ?tp_MeridianError ?ip_MeridianError ?ga_MeridianError ?gt_MeridianError ?hd_MeridianError ?ca_MeridianError ?mo_MeridianError ?ve_MeridianError ?u_MeridianError_MeridianError ?u_MeridianError_BadArgument ?u_MeridianError_BadBytes ?u_MeridianError_BadSeal ?mg_BadArgument ?x_BadArgument ?kc_BadArgument ?bp_BadArgument ?tp_BadArgument ?ip_BadArgument ?ga_BadArgument ?gt_BadArgument ?hd_BadArgument ?ca_BadArgument ?mo_BadArgument ?ve_BadArgument ?u_BadArgument_MeridianError ?u_BadArgument_BadArgument ?u_BadArgument_BadBytes ?u_BadArgument_BadSeal ?mg_BadBytes ?x_BadBytes ?kc_BadBytes ?bp_BadBytes ?tp_BadBytes ?ip_BadBytes ?ga_BadBytes ?gt_BadBytes ?hd_BadBytes ?ca_BadBytes ?mo_BadBytes ?ve_BadBytes ?u_BadBytes_MeridianError ?u_BadBytes_BadArgument ?u_BadBytes_BadBytes ?u_BadBytes_BadSeal ?mg_BadSeal ?x_BadSeal ?kc_BadSeal ?bp_BadSeal ?tp_BadSeal ?ip_BadSeal ?ga_BadSeal ?gt_BadSeal ?hd_BadSeal ?ca_BadSeal ?mo_BadSeal ?ve_BadSeal ?u_BadSeal_MeridianError ?u_BadSeal_BadArgument ?u_BadSeal_BadBytes ?u_BadSeal_BadSeal ?cn ?ct ?mg_Disk ?pg_Disk ?hd_Disk ?po_Disk ?sa_Disk ?mk_Disk ?kc_Disk ?ca_Disk ?mo_Disk ?na_Disk__kept ?na_Disk__loose ?a_checksum ?l_checksum ?c_checksum ?k_checksum ?a_seal ?l_seal ?c_seal ?k_seal ?a_open_seal ?l_open_seal ?c_open_seal ?k_open_seal ?a__checksum_bytes ?l__checksum_bytes ?c__checksum_bytes ?k__checksum_bytes ?a_encode_number ?l_encode_number ?c_encode_number ?k_encode_number ?a_decode_number ?l_decode_number ?t_decode_number ?c_decode_number ?k_decode_number ?a__check_index ?l__check_index ?c__check_index ?k__check_index ?a__last_index ?l__last_index ?c__last_index ?k__last_index ?a_encode_frame ?l_encode_frame ?c_encode_frame ?k_encode_frame ?a_decode_frame ?l_decode_frame ?t_decode_frame ?c_decode_frame ?k_decode_frame ?a_decode_frames ?l_decode_frames ?c_decode_frames ?k_decode_frames ?a_Disk_init ?i_Disk_init ?l_Disk_init ?c_Disk_init ?k_Disk_init ?a_Disk_kept ?i_Disk_kept ?l_Disk_kept ?c_Disk_kept ?k_Disk_kept ?a_Disk_loose ?i_Disk_loose ?l_Disk_loose ?c_Disk_loose ?k_Disk_loose ?a_Disk_size ?pt_Disk_size ?pk_Disk_size ?pr_Disk_size ?l_Disk_size ?c_Disk_size ?k_Disk_size ?a_Disk_write ?i_Disk_write ?l_Disk_write ?c_Disk_write ?k_Disk_write ?a_Disk_sync ?i_Disk_sync ?l_Disk_sync ?c_Disk_sync ?k_Disk_sync ?a_Disk_crash ?i_Disk_crash ?l_Disk_crash ?t0_Disk_crash ?t1_Disk_crash ?c_Disk_crash ?k_Disk_crash ?a_Disk_frames ?i_Disk_frames ?l_Disk_frames ?c_Disk_frames ?k_Disk_frames ?a_Disk_mend ?i_Disk_mend ?l_Disk_mend ?c_Disk_mend ?k_Disk_mend ?a__law_cell ?l__law_cell ?c__law_cell ?k__law_cell ?a__law_draws ?l__law_draws ?c__law_draws ?k__law_draws ?a__law_block ?l__law_block ?c__law_block ?k__law_block ?a__law_varint ?l__law_varint ?c__law_varint ?k__law_varint ?a__law_sum ?l__law_sum ?c__law_sum ?k__law_sum ?a__law_sealed ?l__law_sealed ?c__law_sealed ?k__law_sealed ?a__law_frame ?l__law_frame ?c__law_frame ?k__law_frame ?a__law_refused ?l__law_refused ?c__law_refused ?k__law_refused ?a__law_stands ?l__law_stands ?c__law_stands ?k__law_stands ?a__law_survivors ?l__law_survivors ?c__law_survivors ?k__law_survivors ?a_law ?l_law ?c_law ?k_law ?z_len ?z_list ?z_property ?z_abs ?z_int ?z_range ?z_isinstance ?z_min
    (case mg_MeridianError => k_is)
    (case mg_BadArgument => k_is)
    (case mg_BadBytes => k_is)
    (case mg_BadSeal => k_is)
    (case mg_Disk => k_is)
    (case a_checksum => k_is)
    (case a_seal => k_is)
    (case a_open_seal => k_is)
    (case a__checksum_bytes => k_is)
    (case a_encode_number => k_is)
    (case a_decode_number => k_is)
    (case a__check_index => k_is)
    (case a__last_index => k_is)
    (case a_encode_frame => k_is)
    (case a_decode_frame => k_is)
    (case a_decode_frames => k_is)
    (case a_Disk_init => k_is)
    (case a_Disk_kept => k_is)
    (case a_Disk_loose => k_is)
    (case a_Disk_size => k_is)
    (case a_Disk_write => k_is)
    (case a_Disk_sync => k_is)
    (case a_Disk_crash => k_is)
    (case a_Disk_frames => k_is)
    (case a_Disk_mend => k_is)
    (case a__law_cell => k_is)
    (case a__law_draws => k_is)
    (case a__law_block => k_is)
    (case a__law_varint => k_is)
    (case a__law_sum => k_is)
    (case a__law_sealed => k_is)
    (case a__law_frame => k_is)
    (case a__law_refused => k_is)
    (case a__law_stands => k_is)
    (case a__law_survivors => k_is)
    (case a_law => k_is)
    (case pr_Disk_size => k_is)
    (case x_MeridianError => k_exc)
    (case kc_MeridianError => k_is)
    (case bp_MeridianError => k_is)
    (case tp_MeridianError => k_is)
    (case ip_MeridianError => k_is)
    (case ga_MeridianError => k_is)
    (case gt_MeridianError => k_is)
    (case hd_MeridianError => k_is)
    (case ca_MeridianError => k_is)
    (case mo_MeridianError => k_is)
    (case ve_MeridianError => k_is)
    (case u_MeridianError_MeridianError => k_is)
    (case u_MeridianError_BadArgument => k_is)
    (case u_MeridianError_BadBytes => k_is)
    (case u_MeridianError_BadSeal => k_is)
    (case x_BadArgument => k_exc)
    (case kc_BadArgument => k_is)
    (case bp_BadArgument => k_is)
    (case tp_BadArgument => k_is)
    (case ip_BadArgument => k_is)
    (case ga_BadArgument => k_is)
    (case gt_BadArgument => k_is)
    (case hd_BadArgument => k_is)
    (case ca_BadArgument => k_is)
    (case mo_BadArgument => k_is)
    (case ve_BadArgument => k_is)
    (case u_BadArgument_MeridianError => k_is)
    (case u_BadArgument_BadArgument => k_is)
    (case u_BadArgument_BadBytes => k_is)
    (case u_BadArgument_BadSeal => k_is)
    (case x_BadBytes => k_exc)
    (case kc_BadBytes => k_is)
    (case bp_BadBytes => k_is)
    (case tp_BadBytes => k_is)
    (case ip_BadBytes => k_is)
    (case ga_BadBytes => k_is)
    (case gt_BadBytes => k_is)
    (case hd_BadBytes => k_is)
    (case ca_BadBytes => k_is)
    (case mo_BadBytes => k_is)
    (case ve_BadBytes => k_is)
    (case u_BadBytes_MeridianError => k_is)
    (case u_BadBytes_BadArgument => k_is)
    (case u_BadBytes_BadBytes => k_is)
    (case u_BadBytes_BadSeal => k_is)
    (case x_BadSeal => k_exc)
    (case kc_BadSeal => k_is)
    (case bp_BadSeal => k_is)
    (case tp_BadSeal => k_is)
    (case ip_BadSeal => k_is)
    (case ga_BadSeal => k_is)
    (case gt_BadSeal => k_is)
    (case hd_BadSeal => k_is)
    (case ca_BadSeal => k_is)
    (case mo_BadSeal => k_is)
    (case ve_BadSeal => k_is)
    (case u_BadSeal_MeridianError => k_is)
    (case u_BadSeal_BadArgument => k_is)
    (case u_BadSeal_BadBytes => k_is)
    (case u_BadSeal_BadSeal => k_is)
    (case cn => k_is)
    (case ct => k_is)
    (case pg_Disk => k_is)
    (case hd_Disk => k_is)
    (case po_Disk => k_is)
    (case sa_Disk => k_is)
    (case mk_Disk => k_is)
    (case kc_Disk => k_is)
    (case ca_Disk => k_is)
    (case mo_Disk => k_is)
    (case na_Disk__kept => k_is)
    (case na_Disk__loose => k_is)
    (case l_checksum => k_is)
    (case c_checksum => k_is)
    (case k_checksum => k_is)
    (case l_seal => k_is)
    (case c_seal => k_is)
    (case k_seal => k_is)
    (case l_open_seal => k_is)
    (case c_open_seal => k_is)
    (case k_open_seal => k_is)
    (case l__checksum_bytes => k_is)
    (case c__checksum_bytes => k_is)
    (case k__checksum_bytes => k_is)
    (case l_encode_number => k_is)
    (case c_encode_number => k_is)
    (case k_encode_number => k_is)
    (case l_decode_number => k_is)
    (case t_decode_number => k_is)
    (case c_decode_number => k_is)
    (case k_decode_number => k_is)
    (case l__check_index => k_is)
    (case c__check_index => k_is)
    (case k__check_index => k_is)
    (case l__last_index => k_is)
    (case c__last_index => k_is)
    (case k__last_index => k_is)
    (case l_encode_frame => k_is)
    (case c_encode_frame => k_is)
    (case k_encode_frame => k_is)
    (case l_decode_frame => k_is)
    (case t_decode_frame => k_is)
    (case c_decode_frame => k_is)
    (case k_decode_frame => k_is)
    (case l_decode_frames => k_is)
    (case c_decode_frames => k_is)
    (case k_decode_frames => k_is)
    (case i_Disk_init => k_is)
    (case l_Disk_init => k_is)
    (case c_Disk_init => k_is)
    (case k_Disk_init => k_is)
    (case i_Disk_kept => k_is)
    (case l_Disk_kept => k_is)
    (case c_Disk_kept => k_is)
    (case k_Disk_kept => k_is)
    (case i_Disk_loose => k_is)
    (case l_Disk_loose => k_is)
    (case c_Disk_loose => k_is)
    (case k_Disk_loose => k_is)
    (case pt_Disk_size => k_is)
    (case pk_Disk_size => k_is)
    (case l_Disk_size => k_is)
    (case c_Disk_size => k_is)
    (case k_Disk_size => k_is)
    (case i_Disk_write => k_is)
    (case l_Disk_write => k_is)
    (case c_Disk_write => k_is)
    (case k_Disk_write => k_is)
    (case i_Disk_sync => k_is)
    (case l_Disk_sync => k_is)
    (case c_Disk_sync => k_is)
    (case k_Disk_sync => k_is)
    (case i_Disk_crash => k_is)
    (case l_Disk_crash => k_is)
    (case t0_Disk_crash => k_is)
    (case t1_Disk_crash => k_is)
    (case c_Disk_crash => k_is)
    (case k_Disk_crash => k_is)
    (case i_Disk_frames => k_is)
    (case l_Disk_frames => k_is)
    (case c_Disk_frames => k_is)
    (case k_Disk_frames => k_is)
    (case i_Disk_mend => k_is)
    (case l_Disk_mend => k_is)
    (case c_Disk_mend => k_is)
    (case k_Disk_mend => k_is)
    (case l__law_cell => k_is)
    (case c__law_cell => k_is)
    (case k__law_cell => k_is)
    (case l__law_draws => k_is)
    (case c__law_draws => k_is)
    (case k__law_draws => k_is)
    (case l__law_block => k_is)
    (case c__law_block => k_is)
    (case k__law_block => k_is)
    (case l__law_varint => k_is)
    (case c__law_varint => k_is)
    (case k__law_varint => k_is)
    (case l__law_sum => k_is)
    (case c__law_sum => k_is)
    (case k__law_sum => k_is)
    (case l__law_sealed => k_is)
    (case c__law_sealed => k_is)
    (case k__law_sealed => k_is)
    (case l__law_frame => k_is)
    (case c__law_frame => k_is)
    (case k__law_frame => k_is)
    (case l__law_refused => k_is)
    (case c__law_refused => k_is)
    (case k__law_refused => k_is)
    (case l__law_stands => k_is)
    (case c__law_stands => k_is)
    (case k__law_stands => k_is)
    (case l__law_survivors => k_is)
    (case c__law_survivors => k_is)
    (case k__law_survivors => k_is)
    (case l_law => k_is)
    (case c_law => k_is)
    (case k_law => k_is)
    (case z_len => k_is)
    (case z_list => k_is)
    (case z_property => k_is)
    (case z_abs => k_is)
    (case z_int => k_is)
    (case z_range => k_is)
    (case z_isinstance => k_is)
    (case z_min => k_is)
