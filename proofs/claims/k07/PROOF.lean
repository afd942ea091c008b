import PyProof.Rows.All
import Wide.All
import OpenK.AllK
import Wide.FinOn
import PyProof.NeKinds
import HandS.ForMost
import HandS.More
import HandS.DeepEq
import HandS.IsInst
import HandS.Style
import HandS.Defaults
import HandS.Codes
import PyProof.ReprRoads
import PyProof.Rows.BootFacts.P3
import PyProof.ReprBulk
import PyProof.P3Eq
import HandS.TupAny
import HandS.Base
import HandS.Call
import HandS.List
import HandS.Dict
import KE.KDictList
import PyProof.TupleOfSeq
import PyProof.TupleOfGen
import HandS.Walk
import HandS.RevRange
import HandS.Wide
import HandS.WideBits
import HandS.DictComp
import HandS.NoneIn
import HandS.Steps
import KE.KIntText
import HandS.Zip
import HandS.TryOnly
import KE.GoesMore
import KE.KTupSum
import HandS.NamedTupSort
import KE.KSortTup
import KE.LtData
import HandS.SortInts
import HandS.TupSets
import PySem.Challenge.RW_timesagain_k07_parts_in_the_place_of_par
set_option Elab.async false
set_option linter.all false
set_option maxRecDepth 100000
set_option maxHeartbeats 4000000
namespace TA
open PySem PySem.Spec L2
open PyProof.Rows hiding St
/-- what == says of two items: the same value, or two flat ones -/
inductive EqI : V → V → Bool → Prop where
  | same (x : V) (h : flatB x = true ∨ ∃ a, x = .ref a) : EqI x x true
  | flat {x y : V} (hx : flatV x = true) (hy : flatV y = true) : EqI x y (eqV x y)
inductive EqIs : List V → List V → List Bool → Prop where
  | nil : EqIs [] [] []
  | cons {x y : V} {b : Bool} {xs ys : List V} {bs : List Bool} (h : EqI x y b) (t : EqIs xs ys bs) : EqIs (x :: xs) (y :: ys) (b :: bs)
theorem EqI.at {A : Around} {s : Shared} {x y : V} {b : Bool} {u v : Value} (h : EqI x y b) (rx : RelV x u) (ry : RelV y v) : SeqAt.EqAt A s u v b := by
  cases h with
  | same f =>
    rcases f with f | ⟨a, rfl⟩
    · exact eqAt_same rx ry f
    · cases (show u = Value.ref a from rx)
      cases (show v = Value.ref a from ry)
      exact SeqAt.EqAt.same _
  | flat hx hy => exact eqAt_V rx ry hx hy
theorem EqIs.len {xs ys : List V} {bs : List Bool} (h : EqIs xs ys bs) : xs.length = bs.length ∧ ys.length = bs.length := by
  induction h with
  | nil => exact ⟨rfl, rfl⟩
  | cons _ _ ih => exact ⟨congrArg Nat.succ ih.1, congrArg Nat.succ ih.2⟩
theorem EqIs.at {A : Around} {s : Shared} {xs ys : List V} {bs : List Bool} (h : EqIs xs ys bs) : ∀ {us vs : List Value}, Vals xs us → Vals ys vs → ∀ (j : Nat) (h1 : j < us.length) (h2 : j < vs.length), SeqAt.EqAt A s us[j] vs[j] (bs.getD j true) := by
  induction h with
  | nil =>
    intro us vs r1 r2 j h1 _
    cases r1
    exact absurd h1 (Nat.not_lt_zero j)
  | cons h _ ih =>
    intro us vs r1 r2 j h1 h2
    cases r1 with
    | cons a1 b1 =>
      cases r2 with
      | cons a2 b2 =>
        cases j with
        | zero => exact h.at a1 a2
        | succ j => exact ih b1 b2 j (Nat.lt_of_succ_lt_succ h1) (Nat.lt_of_succ_lt_succ h2)
theorem all_getD : ∀ bs : List Bool, (List.range bs.length).all (fun j => bs.getD j true) = bs.all id
  | [] => rfl
  | b :: r => by
    rw [List.length_cons, List.range_succ_eq_map, List.all_cons, List.all_map, List.all_cons]
    show (b && (List.range r.length).all fun j => r.getD j true) = (b && r.all id)
    rw [all_getD r]
section
variable {X : Cx}
/-- two lists compared, item by item -/
def rCmpL (K : PySem.W.Frag) (neg : Bool) : R2 := fun x y H Q => ∃ a b xs ys, x = .ref a ∧ y = .ref b ∧ SqL K H a xs ∧ SqL K H b ys ∧
  ((xs.length ≠ ys.length ∧ Q (.bl neg) H) ∨ ∃ bs : List Bool, EqIs xs ys bs ∧ Q (.bl (if neg then !bs.all id else bs.all id)) H)
theorem op_eqL (hu : X.A.units < cLine) : OpR X (compareOp .Eq) (rCmpL X.K false) := by
  intro pins s σ H x y v u Q I rx ry h
  obtain ⟨a, b, xs, ys, rfl, rfl, ha, hb, h⟩ := h
  cases (show v = Value.ref a from rx)
  cases (show u = Value.ref b from ry)
  obtain ⟨us, r1, p1, _⟩ := I.list ha
  obtain ⟨ws, r2, p2, _⟩ := I.list hb
  rcases h with ⟨hne, q⟩ | ⟨bs, e, q⟩
  · have hsz : (us.toArray.size != ws.toArray.size) = true := by
      rw [List.size_toArray, List.size_toArray, ← r1.length, ← r2.length]
      simpa using hne
    exact SeqAt.RcAt.lists_lengths p1.isList p2.isList hsz hu _ _ _ _ ⟨.bl _, H, I, rfl, q⟩
  · have hl := e.len
    have hsz : us.toArray.size = ws.toArray.size := by rw [List.size_toArray, List.size_toArray, ← r1.length, ← r2.length, hl.1, hl.2]
    refine SeqAt.RcAt.lists (e := fun j => bs.getD j true) p1.isList p2.isList hsz hu (fun j h1 h2 => ?_) _ _ _ _ ?_
    · have k := e.at (A := X.A.in1) (s := s) r1 r2 j (by simpa using h1) (by simpa using h2)
      simpa using k
    · rw [List.size_toArray, ← r1.length, hl.1, all_getD]
      exact ⟨.bl _, H, I, rfl, q⟩
theorem op_neL (hu : X.A.units < cLine) : OpR X (compareOp .NotEq) (rCmpL X.K true) := by
  intro pins s σ H x y v u Q I rx ry h
  obtain ⟨a, b, xs, ys, rfl, rfl, ha, hb, h⟩ := h
  cases (show v = Value.ref a from rx)
  cases (show u = Value.ref b from ry)
  obtain ⟨us, r1, p1, _⟩ := I.list ha
  obtain ⟨ws, r2, p2, _⟩ := I.list hb
  rcases h with ⟨hne, q⟩ | ⟨bs, e, q⟩
  · have hsz : (us.toArray.size != ws.toArray.size) = true := by
      rw [List.size_toArray, List.size_toArray, ← r1.length, ← r2.length]
      simpa using hne
    exact SeqAt.RcNeAt.lists_lengths p1.isList p2.isList hsz hu _ _ _ _ ⟨.bl _, H, I, rfl, q⟩
  · have hl := e.len
    have hsz : us.toArray.size = ws.toArray.size := by rw [List.size_toArray, List.size_toArray, ← r1.length, ← r2.length, hl.1, hl.2]
    refine SeqAt.RcNeAt.lists (e := fun j => bs.getD j true) p1.isList p2.isList hsz hu (fun j h1 h2 => ?_) _ _ _ _ ?_
    · have k := e.at (A := X.A.in1) (s := s) r1 r2 j (by simpa using h1) (by simpa using h2)
      simpa using k
    · rw [List.size_toArray, ← r1.length, hl.1, all_getD]
      exact ⟨.bl _, H, I, rfl, q⟩
/-- either of two readings -/
theorem op_or {f : Value → Value → Sem Value} {r1 r2 : R2} (h1 : OpR X f r1) (h2 : OpR X f r2) : OpR X f (fun x y H Q => r1 x y H Q ∨ r2 x y H Q) := by
  intro pins s σ H x y v u Q I rx ry h
  rcases h with h | h
  · exact h1 pins s σ H x y v u Q I rx ry h
  · exact h2 pins s σ H x y v u Q I rx ry h
end
end TA
namespace TF07
open PySem PySem.Spec L2 TA
open PyProof.Rows hiding St
def top (i : Nat) : Stmt := PySem.Challenge.pw_timesagain_k07_parts_in_the_place_of_par.main.body.getD i (.Pass ⟨0, 0, 0, 0⟩)
/-- a def of the top: where it stands, its name, how it is called -/
structure Df (K : PySem.W.Frag) (mg : Str → Option Value) (x : Str) (st : Stmt) (f : Addr) (fd : FuncData) (ps : List Str) : Prop where
  F : Fun K x x st f fd
  m : mg x = some (.ref f)
  b : Binds K fd ps []
section
variable {X : Cx} {k j : Nat} {f : Addr} {fd : FuncData} {ps : List Str} {sp : Sp} {x : Str} {st : Stmt} {p pos : Pos} {e : Expr} {es : List Expr} {t tk : TA}
theorem pe_cd (D : Df X.K X.mg x st f fd ps) (F : FnOk X.prog X.w X.K X.mg X.base CX0 k f fd ps sp) (hr : Room j X.A) (hj : k ≤ j) (ha : PA X (e :: es) t) (hg : Gl X x := by rfl)
    (hdb : (x == ("__debug__" : Str)) = false := by decide) (he : starEach (e :: es) X.env = (false, eval e X.env) :: starEach es X.env := by rfl) (hpl : (backTo pos (starEach es X.env)).any (·.1) = false := by rfl) :
    PE X (.Call (.Name x p) (e :: es) [] pos) (tCall sp [] E0 t) := pe_call F (hr.mono hj) hg D.m D.F.kp D.b .nil pass0 ha hdb he hpl
/-- // by any number that is no giant -/
theorem op_fdivB : OpR X (binaryOp .FloorDiv) (rI (fun _ j => j ≠ 0 ∧ j.natAbs.log2 < 9000) fun i j => .int (i.fdiv j)) := opI fun _ _ _ _ _ _ _ hc q => floordiv_int hc.1 q (.inl (PyProof.noPylong_of_log2 hc.2))
end
/-- the names of the top that stand for Python's own things -/
structure Bn (mg : Str → Option Value) : Prop where
  b_ValueError : mg "ValueError" = none
  b_abs : mg "abs" = none
  b_all : mg "all" = none
  b_bool : mg "bool" = none
  b_enumerate : mg "enumerate" = none
  b_int : mg "int" = none
  b_isinstance : mg "isinstance" = none
  b_len : mg "len" = none
  b_list : mg "list" = none
  b_range : mg "range" = none
  b_repr : mg "repr" = none
  b_reversed : mg "reversed" = none
  b_sorted : mg "sorted" = none
  b_str : mg "str" = none
  b_tuple : mg "tuple" = none
/-! ### heaps: all but p stays -/
def Keep (p : Addr) (H H' : Hp) : Prop := ∀ b o, b ≠ p → H b = some o → H' b = some o
theorem Keep.refl (p : Addr) (H : Hp) : Keep p H H := fun _ _ _ h => h
theorem Keep.trans {p : Addr} {H H1 H2 : Hp} (a : Keep p H H1) (b : Keep p H1 H2) : Keep p H H2 := fun c o n h => b c o n (a c o n h)
theorem Keep.of_same {p : Addr} {H H' : Hp} (s : Same H H') : Keep p H H' := fun b o _ h => s b o h
theorem Keep.upd_p {p : Addr} {H : Hp} {o : HO} : Keep p H (upd H p o) := fun b u n h => by rw [upd_ne n]; exact h
theorem Keep.new {p q : Addr} {H : Hp} {o : HO} (h : H q = none) : Keep p H (upd H q o) := fun b u _ hb => by rw [upd_ne (ne_of_none hb h)]; exact hb
theorem same_new {H : Hp} {q : Addr} {o : HO} (h : H q = none) : Same H (upd H q o) := fun b u hb => by rw [upd_ne (ne_of_none hb h)]; exact hb
/-- what draws: its cells at c, at most n of them were begun -/
def PenAt (n : Nat) (H : Hp) (p c : Addr) : Prop := ∃ (cells : List Int) (i : Nat) (g : Int), H p = some (.lst [.ref c, .int (i : Int), .int g]) ∧ c ≠ p ∧ H c = some (.lst (cells.map V.int)) ∧ cells.length ≤ 63 ∧ i ≤ n
theorem PenAt.up {n m : Nat} {H : Hp} {p c : Addr} (h : PenAt n H p c) (l : n ≤ m) : PenAt m H p c := by
  obtain ⟨cells, i, g, h1, h2, h3, h4, h5⟩ := h
  exact ⟨cells, i, g, h1, h2, h3, h4, Nat.le_trans h5 l⟩
theorem PenAt.same {n : Nat} {H H' : Hp} {p c : Addr} (h : PenAt n H p c) (s : Same H H') : PenAt n H' p c := by
  obtain ⟨cells, i, g, h1, h2, h3, h4, h5⟩ := h
  exact ⟨cells, i, g, s _ _ h1, h2, s _ _ h3, h4, h5⟩
theorem PenAt.ne {n : Nat} {H : Hp} {p c l : Addr} (h : PenAt n H p c) (hl : H l = none) : l ≠ p := by
  obtain ⟨cells, i, g, h1, _⟩ := h
  exact Ne.symm (ne_of_none h1 hl)
theorem PenAt.ne2 {n : Nat} {H : Hp} {p c l : Addr} (h : PenAt n H p c) (hl : H l = none) : l ≠ c := by
  obtain ⟨cells, i, g, h1, h2, h3, _⟩ := h
  exact Ne.symm (ne_of_none h3 hl)
/-- a store elsewhere -/
theorem PenAt.upd {n : Nat} {H : Hp} {p c l : Addr} {o : HO} (h : PenAt n H p c) (h1 : l ≠ p) (h2 : l ≠ c) : PenAt n (upd H l o) p c := by
  obtain ⟨cells, i, g, e1, e2, e3, e4, e5⟩ := h
  exact ⟨cells, i, g, by rw [upd_ne (Ne.symm h1)]; exact e1, e2, by rw [upd_ne (Ne.symm h2)]; exact e3, e4, e5⟩
theorem PenAt.lst {n : Nat} {H : Hp} {p c : Addr} (h : PenAt n H p c) : ∃ xs, H p = some (.lst xs) := by
  obtain ⟨cells, i, g, h1, _⟩ := h
  exact ⟨_, h1⟩
theorem PenAt.mk {n : Nat} {H : Hp} {p c : Addr} {cells : List Int} {i : Int} {g : Int} (h1 : H p = some (.lst [.ref c, .int i, .int g])) (h2 : c ≠ p) (h3 : H c = some (.lst (cells.map V.int))) (h4 : cells.length ≤ 63) (h0 : 0 ≤ i) (h5 : i ≤ n) : PenAt n H p c :=
  ⟨cells, i.toNat, g, by rw [h1, Int.toNat_of_nonneg h0], h2, h3, h4, by omega⟩
theorem fm_nn {x y : Int} (h : 0 < y) : 0 ≤ x.fmod y := Int.fmod_nonneg_of_pos x h
theorem fm_lt {x y : Int} (h : 0 < y) : x.fmod y < y := Int.fmod_lt_of_pos x h
/-- a number that divides well -/
def Dv (m : Int) : Prop := 0 < m ∧ m.natAbs.log2 < 9000
theorem Dv.of {m : Int} (h0 : 0 < m) (h : m ≤ 1000000000) : Dv m := ⟨h0, by
  have z : m.natAbs < 2 ^ 30 := by omega
  have e := (Nat.log2_lt (n := m.natAbs) (k := 30) (by omega)).mpr z
  omega⟩
theorem mem_at {xs : List V} {r : Int} {n : Int} (h0 : 0 ≤ r) (h1 : r < n) (hn : n = (xs.length : Int)) : ∃ v, v ∈ xs ∧ atI xs r = some v := by
  have hj : r.toNat < xs.length := by omega
  exact ⟨xs[r.toNat], List.getElem_mem hj, at_of (j := r.toNat) (by omega) (List.getElem?_eq_getElem hj)⟩
theorem take_snoc {α : Type} {xs : List α} {i : Nat} {x : α} (h : xs[i]? = some x) : xs.take (i + 1) = xs.take i ++ [x] := by
  rw [List.take_add_one, h]
  rfl
/-! ### what draws -/
abbrev sPen : Stmt := top 39
abbrev sDraw : Stmt := top 40
theorem scPen : FnScope ["script", "cell"] ["script"] (defScope sPen) := ⟨rfl, rfl, rfl, by decide +kernel, rfl, by decide +kernel, by decide +kernel⟩
theorem scDraw : FnScope ["chest", "many", "held", "turn", "cell", "mixed"] ["chest", "many"] (defScope sDraw) := ⟨rfl, rfl, rfl, by decide +kernel, rfl, by decide +kernel, by decide +kernel⟩
def spPen (K : PySem.W.Frag) : Sp := fun vs H Q _ => ∃ (a : Addr) (ns : List Int), vs = [.ref a] ∧ SqL K H a (ns.map V.int) ∧ ns.length ≤ 63 ∧
  ∀ (p c : Addr) (H' : Hp), H p = none → Same H H' → PenAt 0 H' p c → Q (.ref p) H'
def spDraw : Sp := fun vs H Q _ => ∃ (p c : Addr) (many : Int) (n : Nat), vs = [.ref p, .int many] ∧ PenAt n H p c ∧ n ≤ 100000 ∧ Dv many ∧
  ∀ (r : Int) (H' : Hp), 0 ≤ r → r < many → Keep p H H' → PenAt (n + 1) H' p c → Q (.int r) H'
section
variable {P : Program} {w : World} {K : PySem.W.Frag} {mg : Str → Option Value} {base : Heap} {f f1 : Addr} {fd fd1 : FuncData}
theorem ok_pen (F : Fun K "_law_chest" "_law_chest" sPen f fd) (T : Bn mg) : FnOk P w K mg base CX0 1 f fd ["script"] (spPen K) := by
  refine F.ok scPen (fun vs H Q E h => ?_) (fun cdv A outer s H vs Q E hr h => ?_)
  · obtain ⟨a, ns, rfl, _⟩ := h
    rfl
  obtain ⟨a, ns, rfl, hS, hl, q⟩ := h
  refine ⟨_, (pss_one (ps_ret (pe_lst (pa_cons (pe_lc (own := [("cell", 1)]) (g := (gName 1)) (by rfl) scPen.nd (pi_list (pe_slice sl_list (pv 0) po_none (po_some pe_int))) (blkOk_by (own := [("cell", 1)]) (N := ["script", "cell"]) (sc := defScope sPen) (by decide +kernel)) (fun _ _ _ _ _ => (pg_name (i := 1) scPen.nd rfl (.inl rfl))) (fun _ _ _ _ _ => pts_nil) (fun _ _ _ _ _ => (pe_callTy call_int1 (by rfl) T.b_int (by decide +kernel) (pa_cons (pv 1) pa_nil)))) (pa_cons pe_int (pa_cons pe_int pa_nil)))))), ?_⟩
  refine ⟨_, rfl, _, rfl, a, _, rfl, hS, fun b hb => ?_⟩
  have cut : cutV (ns.map V.int) none (some 60) = (ns.take 60).map V.int := by
    unfold cutV
    rw [HT.sIx_none, List.drop_zero, show (some (60 : Int)) = some ((60 : Nat) : Int) from rfl, HT.sIx_nat, List.length_map, Nat.sub_zero, ← List.map_take]
    congr 1
    by_cases h : 60 ≤ ns.length
    · rw [Nat.min_eq_left h]
    · rw [Nat.min_eq_right (by omega), List.take_of_length_le (Nat.le_refl _), List.take_of_length_le (by omega)]
  refine ⟨b, rfl, ⟨_, SqL.of upd_same⟩, fun D hD => ?_⟩
  have sB : Same H (L2.upd H b (.lst (cutV (ns.map V.int) none (some 60)))) := same_new hb
  have dH : H D = none := sB.free hD
  have nDb : b ≠ D := ne_of_none upd_same hD
  refine lc_list (K := K) (a := b) (xs := cutV (ns.map V.int) none (some 60)) (fun i H2 => Same H H2 ∧ H2 b = some (.lst (cutV (ns.map V.int) none (some 60))) ∧ H2 D = some (.lst (((ns.take 60).map V.int).take i))) ?_ ?_ ?_ ?_
  · exact ⟨sB.trans (same_new hD), by rw [upd_ne nDb, upd_same], by rw [upd_same, List.take_zero]⟩
  · rintro i H2 _ ⟨_, h2, _⟩
    exact SqL.of h2
  · rintro i x H2 hx ⟨s2, h2, h3⟩
    rw [cut, List.getElem?_map] at hx
    obtain ⟨z, hz, rfl⟩ := Option.map_eq_some_iff.mp hx
    refine ⟨rfl, _, rfl, .inl ⟨_, rfl, _, h3, ?_, ?_⟩⟩
    · rw [List.length_take, List.length_map, List.length_take]
      exact small1000 (by omega)
    · refine ⟨fun y o hy => ?_, by rw [upd_ne nDb]; exact h2, ?_⟩
      · rw [upd_ne (ne_of_none hy dH)]
        exact s2 y o hy
      · rw [upd_same, take_snoc (x := V.int z) (by rw [List.getElem?_map, hz]; rfl)]
  rintro H2 ⟨s2, h2, h3⟩
  refine ⟨(by show 3 ≤ sizeLine; decide), fun p hp => ?_⟩
  have pH : H p = none := s2.free hp
  refine q p D _ pH (s2.trans (same_new hp)) ?_
  have nDp : D ≠ p := ne_of_none h3 hp
  refine PenAt.mk (c := D) (cells := ns.take 60) (i := 0) upd_same nDp ?_ (by rw [List.length_take]; omega) (by decide) (by decide)
  rw [upd_ne nDp, h3, List.take_of_length_le]
  rw [cut]
  exact Nat.le_refl _
theorem ok_draw (F : Fun K "_law_pull" "_law_pull" sDraw f fd) (T : Bn mg) : FnOk P w K mg base CX0 1 f fd ["chest", "many"] spDraw := by
  refine F.ok scDraw (fun vs H Q E h => ?_) (fun cdv A outer s H vs Q E hr h => ?_)
  · obtain ⟨p, c, many, n, rfl, _⟩ := h
    rfl
  obtain ⟨p, c, many, n, rfl, ⟨cells, i, g, hp, hcp, hc, hl, hi⟩, hn, ⟨m0, m1⟩, q⟩ := h
  have mne : many ≠ 0 := by omega
  have mdiv : many ≠ 0 ∧ many.natAbs.log2 < 9000 := ⟨mne, m1⟩
  refine ⟨_, (pss_cons (ps_if (pt_cmpR op_gt (pe_ix ix_list (pv 0) pe_int (fun _ _ => rfl)) pe_int (nomark _)) (pss_cons (ps_set (i := 2) scDraw.nd rfl (.inl rfl) (pe_ix ix_list (pv 0) pe_int (fun _ _ => rfl)))
        (pss_cons (ps_asg (pe_op op_fdivB (pe_callTy call_int1 (by rfl) T.b_int (by decide +kernel) (pa_cons (pv 2) pa_nil)) (pv 1)) (pg_sub (pv 0) pe_int set_list))
        (pss_one (ps_ret (pe_op op_modN (pe_callTy call_int1 (by rfl) T.b_int (by decide +kernel) (pa_cons (pv 2) pa_nil)) (pv 1)))))) pss_nil)
      (pss_cons (ps_set (i := 3) scDraw.nd rfl (.inl rfl) (pe_ix ix_list (pv 0) pe_int (fun _ _ => rfl)))
      (pss_cons (ps_asg (pe_op op_add (pv 3) pe_int) (pg_sub (pv 0) pe_int set_list))
      (pss_cons (ps_set (i := 4) scDraw.nd rfl (.inl rfl) (pe_op op_add (pe_op op_mul pe_int (pv 3)) pe_int))
      (C8.pss_cut (ps_if (pt_cmpR (op_neL hr.units0) (pe_ix ix_list (pv 0) pe_int (fun _ _ => rfl)) (pe_lst pa_nil) (nomark _)) (pss_one (ps_set (i := 4) scDraw.nd rfl (.inl rfl) (pe_ix ix_list (pe_ix ix_list (pv 0) pe_int (fun _ _ => rfl)) (pe_op op_modN (pe_callTy call_int1 (by rfl) T.b_int (by decide +kernel) (pa_cons (pv 3) pa_nil)) (pe_callB call_len_seq (by rfl) T.b_len (by decide +kernel) (pa_cons (pe_ix ix_list (pv 0) pe_int (fun _ _ => rfl)) pa_nil))) (fun _ _ => rfl)))) pss_nil)
      (C8.pss_cut (ps_if (PW.pt (pw_and (pt_cmpR op_lt (pv 3) (pe_callB call_len_seq (by rfl) T.b_len (by decide +kernel) (pa_cons (pe_ix ix_list (pv 0) pe_int (fun _ _ => rfl)) pa_nil)) (nomark _)) (pw_and1 (pt_cmpR op_ge (pe_callB call_abs (by rfl) T.b_abs (by decide +kernel) (pa_cons (pv 4) pa_nil)) (pe_op op_pow pe_int pe_int) (nomark _))))) (pss_cons (ps_set (i := 2) scDraw.nd rfl (.inl rfl) (pe_op op_add (pe_op op_mul pe_int (pe_op op_sub (pe_callB call_abs (by rfl) T.b_abs (by decide +kernel) (pa_cons (pv 4) pa_nil)) (pe_op op_pow pe_int pe_int))) (pe_callTy call_int1 (by rfl) T.b_int (by decide +kernel) (pa_cons (pe_cmpR op_lt (pv 4) pe_int (nomark _)) pa_nil))))
        (pss_cons (ps_asg (pe_op op_fdivB (pe_callTy call_int1 (by rfl) T.b_int (by decide +kernel) (pa_cons (pv 2) pa_nil)) (pv 1)) (pg_sub (pv 0) pe_int set_list))
        (pss_one (ps_ret (pe_op op_modN (pe_callTy call_int1 (by rfl) T.b_int (by decide +kernel) (pa_cons (pv 2) pa_nil)) (pv 1)))))) pss_nil)
      (pss_cons (ps_set (i := 5) scDraw.nd rfl (.inl rfl) (pe_op op_modN (pe_callTy call_int1 (by rfl) T.b_int (by decide +kernel) (pa_cons (pe_op op_pow (pe_op op_add (pe_op op_add (pe_op op_modN (pe_callTy call_int1 (by rfl) T.b_int (by decide +kernel) (pa_cons (pv 4) pa_nil)) pe_int) (pe_op op_mul pe_int (pv 3))) pe_int) pe_int) pa_nil)) pe_int))
      (pss_cons (ps_set (i := 5) scDraw.nd rfl (.inl rfl) (pe_op op_modN (pe_callTy call_int1 (by rfl) T.b_int (by decide +kernel) (pa_cons (pe_op op_pow (pe_op op_add (pe_op op_add (pe_op op_mul (pv 5) (pe_op op_add (pe_op op_mul pe_int (pv 3)) pe_int)) (pe_op op_mul (pe_op op_mul pe_int (pv 3)) (pv 3))) pe_int) pe_int) pa_nil)) pe_int))
      (pss_one (ps_ret (pe_op op_modN (pe_callTy call_int1 (by rfl) T.b_int (by decide +kernel) (pa_cons (pe_op op_fdivB (pv 5) pe_int) pa_nil)) (pv 1)))))))))))), ?_⟩
  refine ⟨_, rfl, p, _, _, _, rfl, rfl, SqL.of hp, rfl, _, _, rfl, rfl, _, rfl, ?_⟩
  refine ite2 (fun c0 => ?_) (fun c0 => ?_)
  · refine ⟨_, rfl, p, _, _, _, rfl, rfl, SqL.of hp, rfl, ?_⟩
    refine ⟨_, rfl, .inl ⟨_, rfl, _, rfl, _, _, rfl, rfl, mdiv, ?_⟩⟩
    refine ⟨_, rfl, p, _, _, _, rfl, rfl, hp, rfl, ?_⟩
    refine ⟨_, rfl, .inl ⟨_, rfl, _, rfl, _, _, rfl, rfl, mne, ?_⟩⟩
    refine q _ _ (fm_nn m0) (fm_lt m0) Keep.upd_p ?_
    exact PenAt.mk (c := c) (cells := cells) (i := i) upd_same hcp (by rw [upd_ne hcp]; exact hc) hl (by omega) (by omega)
  refine ⟨_, rfl, p, _, _, _, rfl, rfl, SqL.of hp, rfl, ?_⟩
  refine ⟨_, rfl, _, _, rfl, rfl, _, rfl, p, _, _, _, rfl, rfl, hp, rfl, ?_⟩
  have hp1 : ∀ o, L2.upd H p o p = some o := fun o => upd_same
  refine ⟨_, rfl, _, _, rfl, rfl, .inl ⟨by decide, by decide⟩, _, _, rfl, rfl, ?_⟩
  refine ⟨fun σ H2 => ∃ (cell : Int) (v0 v1 : Option V), σ = [some (.ref p), some (.int many), v0, some (.int (i : Int)), some (.int cell), v1] ∧ Keep p H H2 ∧ H2 p = some (.lst [.ref c, .int ((i : Int) + 1), .int g]), ?_, ?_⟩
  · refine ⟨_, rfl, p, _, _, _, rfl, rfl, SqL.of (hp1 _), rfl, Nat.zero_le _, fun l hl0 => ?_⟩
    have nlp : p ≠ l := ne_of_none (hp1 _) hl0
    have hlH : H l = none := by
      rw [← hl0, upd_ne (Ne.symm nlp)]
    have ncl : c ≠ l := ne_of_none hc hlH
    have hc2 : ∀ o, (L2.upd (L2.upd H p o) l (.lst [])) c = some (.lst (cells.map V.int)) := fun o => by rw [upd_ne ncl, upd_ne hcp]; exact hc
    have hp2 : ∀ o, (L2.upd (L2.upd H p o) l (.lst [])) p = some o := fun o => by rw [upd_ne nlp, upd_same]
    have kp2 : ∀ o, Keep p H (L2.upd (L2.upd H p o) l (.lst [])) := fun o => fun b u nb hb => by rw [upd_ne (ne_of_none hb hlH), upd_ne nb]; exact hb
    refine ⟨c, l, _, _, rfl, rfl, SqL.of (hc2 _), SqL.of upd_same, ?_⟩
    by_cases e : cells = []
    · subst e
      refine .inr ⟨[], .nil, _, rfl, iteF ?_⟩
      exact ⟨_, _, _, rfl, kp2 _, hp2 _⟩
    · have el : cells.length ≠ 0 := fun z => e (List.length_eq_zero_iff.mp z)
      refine .inl ⟨by rw [List.length_map]; exact el, _, rfl, iteT ?_⟩
      refine ⟨_, rfl, p, _, _, _, rfl, rfl, SqL.of (hp2 _), rfl, _, rfl, .inl ⟨_, rfl, _, rfl, p, _, _, _, rfl, rfl, SqL.of (hp2 _), rfl, c, _, rfl, .inl (SqL.of (hc2 _)), ?_⟩⟩
      have lpos : (0 : Int) < ((cells.map V.int).length : Int) := by rw [List.length_map]; omega
      have a1 := fm_nn (x := (i : Int)) lpos
      have a2 := fm_lt (x := (i : Int)) lpos
      refine ⟨_, _, rfl, rfl, by omega, c, _, _, .int (cells.getD ((i : Int).fmod ((cells.map V.int).length : Int)).toNat 0), rfl, rfl, SqL.of (hc2 _), ?_, ?_⟩
      · rw [List.length_map] at a2 ⊢
        refine at_of (j := ((i : Int).fmod (cells.length : Int)).toNat) ?_ ?_
        · rw [Int.toNat_of_nonneg (by rw [List.length_map] at a1; exact a1)]
        · have hj : ((i : Int).fmod (cells.length : Int)).toNat < cells.length := by rw [List.length_map] at a1; omega
          rw [List.getElem?_map, List.getElem?_eq_getElem hj, List.getD_eq_getElem?_getD, List.getElem?_eq_getElem hj]
          rfl
      · exact ⟨_, _, _, rfl, kp2 _, hp2 _⟩
  rintro σ2 H2 ⟨cell, v0, v1, rfl, k2, hp2⟩
  have hc2 := k2 c _ hcp hc
  refine ⟨fun σ H' => H' = H2 ∧ ∃ (v0 v1 : Option V), σ = [some (.ref p), some (.int many), v0, some (.int (i : Int)), some (.int cell), v1], ?_, ?_⟩
  · refine ⟨_, rfl, _, rfl, p, _, _, _, rfl, rfl, SqL.of hp2, rfl, c, _, rfl, .inl (SqL.of hc2), _, _, rfl, rfl, _, rfl, ?_⟩
    refine ite2 (fun c1 => ?_) (fun c1 => iteF ⟨rfl, _, _, rfl⟩)
    refine ⟨_, rfl, _, rfl, _, _, rfl, rfl, ⟨by decide, by decide, by decide⟩, _, _, rfl, rfl, _, rfl, ?_⟩
    refine ite2 (fun c2 => ?_) (fun c2 => ⟨rfl, _, _, rfl⟩)
    refine ⟨_, rfl, _, rfl, _, _, rfl, rfl, ⟨by decide, by decide, by decide⟩, _, _, rfl, rfl, _, _, rfl, rfl, .inl ⟨by decide, by decide⟩, _, rfl, _, _, rfl, rfl, .inr ⟨_, rfl, _, _, rfl, rfl, ?_⟩⟩
    refine ⟨_, rfl, .inl ⟨_, rfl, _, rfl, _, _, rfl, rfl, mdiv, ?_⟩⟩
    refine ⟨_, rfl, p, _, _, _, rfl, rfl, hp2, rfl, ?_⟩
    refine ⟨_, rfl, .inl ⟨_, rfl, _, rfl, _, _, rfl, rfl, mne, ?_⟩⟩
    refine q _ _ (fm_nn m0) (fm_lt m0) (k2.trans Keep.upd_p) ?_
    exact PenAt.mk (c := c) (cells := cells) (i := (i : Int) + 1) upd_same hcp (by rw [upd_ne hcp]; exact hc2) hl (by omega) (by omega)
  rintro σ3 H3 ⟨rfl, w0, w1, rfl⟩
  have b1 := fm_nn (x := cell) (y := 2147483543) (by decide)
  have b2 := fm_lt (x := cell) (y := 2147483543) (by decide)
  refine ⟨_, rfl, .inl ⟨_, rfl, _, _, rfl, rfl, (by show (_ : Int) ≠ 0; decide), _, rfl, _, _, rfl, rfl, .inl ⟨by decide, by decide⟩, _, _, rfl, rfl, _, _, rfl, rfl, _, _, rfl, rfl, ⟨by decide, by decide, by omega⟩, .inl ⟨_, rfl, _, _, rfl, rfl, (by show (_ : Int) ≠ 0; decide), ?_⟩⟩⟩
  generalize hM : (Int.fmod ((cell.fmod 2147483543 + 63067 * (i : Int) + 5039) ^ (5 : Int).toNat) 2147483353) = M
  have d1 : 0 ≤ M := by rw [← hM]; exact fm_nn (by decide)
  have d2 : M < 2147483353 := by rw [← hM]; exact fm_lt (by decide)
  refine ⟨_, rfl, _, rfl, _, _, rfl, rfl, .inl ⟨by decide, by decide⟩, _, _, rfl, rfl, _, _, rfl, rfl, .inl ⟨by omega, by omega⟩, _, rfl, _, _, rfl, rfl, .inl ⟨by decide, by decide⟩, _, rfl, _, _, rfl, rfl, .inl ⟨by omega, by omega⟩, _, _, rfl, rfl, _, _, rfl, rfl, _, _, rfl, rfl, ⟨by decide, by decide, ?_⟩, .inl ⟨_, rfl, _, _, rfl, rfl, (by show (_ : Int) ≠ 0; decide), ?_⟩⟩
  · have e1 : M * (2 * (i : Int) + 2591) ≤ 2147483353 * 300000 := Int.mul_le_mul (by omega) (by omega) (by omega) (by omega)
    have e2 : 0 ≤ M * (2 * (i : Int) + 2591) := Int.mul_nonneg d1 (by omega)
    have e3 : 83059 * (i : Int) * (i : Int) ≤ 10000000000 * 100000 := Int.mul_le_mul (by omega) (by omega) (by omega) (by omega)
    have e4 : 0 ≤ 83059 * (i : Int) * (i : Int) := Int.mul_nonneg (by omega) (by omega)
    rw [hM]
    omega
  refine ⟨_, rfl, _, _, rfl, rfl, ⟨(by show (_ : Int) ≠ 0; decide), (by show Nat.log2 _ < 9000; decide)⟩, .inl ⟨_, rfl, _, rfl, _, _, rfl, rfl, mne, ?_⟩⟩
  refine q _ _ (fm_nn m0) (fm_lt m0) k2 ?_
  exact PenAt.mk (c := c) (cells := cells) (i := (i : Int) + 1) hp2 hcp hc2 hl (by omega) (by omega)
abbrev sPick : Stmt := top 41
theorem scPick : FnScope ["chest", "some"] ["chest", "some"] (defScope sPick) := ⟨rfl, rfl, rfl, by decide +kernel, rfl, by decide +kernel, by decide +kernel⟩
def spPick (K : PySem.W.Frag) : Sp := fun vs H Q _ => ∃ (p c a : Addr) (xs : List V) (n : Nat), vs = [.ref p, .ref a] ∧ PenAt n H p c ∧ n ≤ 100000 ∧ a ≠ p ∧ H a = some (.lst xs) ∧ xs ≠ [] ∧ xs.length ≤ 1000000 ∧
  ∀ (v : V) (H' : Hp), v ∈ xs → Keep p H H' → PenAt (n + 1) H' p c → Q v H'
theorem ok_pick (F : Fun K "_law_some" "_law_some" sPick f fd) (T : Bn mg) (D__law_pull : Df K mg "_law_pull" sDraw f1 fd1 ["chest", "many"]) (G__law_pull : FnOk P w K mg base CX0 1 f1 fd1 ["chest", "many"] spDraw) : FnOk P w K mg base CX0 2 f fd ["chest", "some"] (spPick K) := by
  refine F.ok scPick (fun vs H Q E h => ?_) (fun cdv A outer s H vs Q E hr h => ?_)
  · obtain ⟨p, c, a, xs, n, rfl, _⟩ := h
    rfl
  obtain ⟨p, c, a, xs, n, rfl, hp, hn, na, ha, hne, hl, q⟩ := h
  refine ⟨_, (pss_one (ps_ret (pe_ix ix_list (pv 1) (pe_cd D__law_pull G__law_pull hr (by decide) (pa_cons (pv 0) (pa_cons (pe_callB call_len_seq (by rfl) T.b_len (by decide +kernel) (pa_cons (pv 1) pa_nil)) pa_nil))) (fun _ _ => rfl)))), ?_⟩
  have lp : xs.length ≠ 0 := fun z => hne (List.length_eq_zero_iff.mp z)
  refine ⟨_, rfl, _, rfl, _, rfl, a, _, rfl, .inl (SqL.of ha), p, c, _, n, rfl, hp, hn, Dv.of (by omega) (by omega), fun r H' r0 r1 k hp' => ?_⟩
  obtain ⟨v, hv, hat⟩ := mem_at (xs := xs) r0 r1 rfl
  exact ⟨a, _, _, _, rfl, rfl, SqL.of (k _ _ na ha), hat, q v H' hv k hp'⟩
end
end TF07
/-! repr of data at any depth: a call's room that also tells that no repr is under way -/
namespace TG
open PySem PySem.Spec L2
open PyProof.Rows hiding St
/-- room for k more calls, and no repr under way -/
structure RoomG (k : Nat) (A : Around) : Prop where
  hd : A.handled = none
  dp : A.depth + k + 5 < recursionLimit
  un : A.units + 6 * k + 200 < cLine
  gd : A.guards = some []
theorem RoomG.mono {j k : Nat} {A : Around} (h : RoomG k A) (hj : j ≤ k) : RoomG j A := ⟨h.hd, by have := h.dp; omega, by have := h.un; omega, h.gd⟩
theorem RoomG.down {k : Nat} {A : Around} (h : RoomG (k + 1) A) (env : Env) : RoomG k (A.deeper env) :=
  ⟨h.hd, by have := h.dp; show A.depth + 1 + k + 5 < _; omega, by have := h.un; show A.units + 3 + 6 * k + 200 < _; omega, h.gd⟩
theorem RoomG.room {k : Nat} {A : Around} (h : RoomG (3 * k) A) : Room k A := ⟨h.hd, by have := h.dp; omega, by have := h.un; omega⟩
theorem RoomG.depth {k : Nat} {A : Around} (h : RoomG k A) : A.depth < recursionLimit := by have := h.dp; omega
theorem RoomG.units {k : Nat} {A : Around} (h : RoomG k A) : A.units + 64 < cLine := by have := h.un; omega
theorem RoomG.units0 {k : Nat} {A : Around} (h : RoomG k A) : A.units < cLine := by have := h.un; omega
theorem RoomG.units2 {k : Nat} {A : Around} (h : RoomG k A) : A.units + 151 < cLine := by have := h.un; omega
theorem RoomG.hu {k : Nat} {A : Around} (h : RoomG k A) : A.units + 1 < cLine := by have := h.un; omega
/-- a def's promise, asked where no repr is under way -/
structure FnG (P : Program) (w : World) (K : PySem.W.Frag) (mg : Str → Option Value) (base : Heap) (CX : CXT) (k : Nat) (f : Addr) (fd : FuncData) (ps : List Str) (sp : Sp) : Prop where
  len : ∀ vs H Q E, sp vs H Q E → vs.length = ps.length
  go : ∀ (A : Around) (outer : List Env) (s : Shared) (H : Hp) (args : Args) (us : List Value) (vs : List V) (Q : VK) (E : XK), RoomG k A → Env0 P w K mg base A outer s H → BindsTo s fd args (ps.zip us) → Vals vs us → sp vs H Q E →
    codeAny (model P w) A (.call (.ref f) args) (CR CX outer P w H s Q E) s
section
variable {P : Program} {w : World} {K : PySem.W.Frag} {mg : Str → Option Value} {base : Heap} {CX : CXT} {j k : Nat} {f : Addr} {fd : FuncData} {ps : List Str} {sp : Sp}
theorem fnG_of (F : FnOk P w K mg base CX k f fd ps sp) : FnG P w K mg base CX (3 * k) f fd ps sp := ⟨F.len, fun A outer s H args us vs Q E hr => F.run A outer s H args us vs Q E hr.room⟩
theorem FnG.mono (F : FnG P w K mg base CX j f fd ps sp) (h : j ≤ k) : FnG P w K mg base CX k f fd ps sp := ⟨F.len, fun A outer s H args us vs Q E hr => F.go A outer s H args us vs Q E (hr.mono h)⟩
end
section
variable {P : Program} {w : World} {K : PySem.W.Frag} {mg : Str → Option Value} {base : Heap}
/-- the rule for a def, as Fun.ok, with the room told so -/
theorem fun_okG {x qual : Str} {st : Stmt} {f : Addr} {fd : FuncData} {N ps : List Str} {k : Nat} {sp : Sp} (F : Fun K x qual st f fd) (S : FnScope N ps (defScope st)) (len : ∀ vs H Q E, sp vs H Q E → vs.length = ps.length)
    (hbody : ∀ (cdv : Value) (A : Around) (outer : List Env) (s : Shared) (H : Hp) (vs : List V) (Q : VK) (E : XK), RoomG k (A.deeper (envOfC qual (defScope st) s.heap.objs.size f cdv)) → sp vs H Q E →
      ∃ t, PSs (cxOf CX0 P w K mg base N qual (defScope st) f cdv A outer s H E).nox (defBody st) t ∧ t { nx := fun _ H' => Q .non H', rt := Q } (start N vs) H) : FnG P w K mg base CX0 (k + 1) f fd ps sp := by
  obtain ⟨oc, od, kV, doc, pm, an, cdv, ct, osl, rfl, lk, hcd⟩ := F.ex
  refine ⟨len, fun A outer s H args us vs Q E hr e0 hb r hsp => ?_⟩
  have hl := len _ _ _ _ hsp
  have kin : K.In s.heap := e0.mod.kin.keeps fun b o e => (e0.bs b o e).1
  have hlim : s.heap.NoLimit := e0.mod.nolimit.keeps fun b o e => (e0.bs b o e).1
  have kinds : ∀ y ∈ ps.zip us, (defScope st).names.lookup y.1 = some .local ∨ ((defScope st).names.lookup y.1 = some .cell ∧ ((cellsFrom (s.heap.objs.size + 1) (defScope st).names []).lookup y.1).isSome = true) := by
    rintro ⟨n, v⟩ hy
    exact (S.par n (List.of_mem_zip hy).1).elim .inl fun z => .inr ⟨z, PySem.W.cellsFrom_some _ _ _ (.inl z)⟩
  refine codeAny_call_function hr.depth (kin _ _ lk) rfl S.co S.gen rfl (PySem.W.codeRec_of kin hcd) (hb _ _ _ _ ?_)
  refine wpAny_newFunctionEnv_cells S.kind kinds fun env he s1 z => ?_
  subst he
  refine ⟨hlim.keeps z.toInCall.keep, codeAny_func ?_⟩
  obtain ⟨t, ht, hq⟩ := hbody cdv A outer s H vs Q E (hr.down _) hsp
  have I : Inv (cxOf CX0 P w K mg base N qual (defScope st) f cdv A outer s H E) [] (start N vs) H s1 := inv_start S hr.hd e0 hl r z
  refine wpAny_mono (ht.nox.run [] s1 (start N vs) H _ I hq) (fun fl s' hs => ?_) fun e s' hs => hs
  have done : ∀ {τ : L2.St} {G : Hp} {v : V} {u : Value}, Inv (cxOf CX0 P w K mg base N qual (defScope st) f cdv A outer s H E) [] τ G s' → RelV v u → Q v G → CE outer P w H s Q u s' :=
    fun {τ G v u} J rv q => ⟨v, G, J.os, J.bare, J.base, J.hok, rv, q⟩
  match fl, hs with
  | .ret u, hs =>
    obtain ⟨v, τ, G, J, rv, q⟩ := hs
    exact done J rv q
  | .next, hs =>
    obtain ⟨τ, G, J, q⟩ := hs
    exact done (v := V.non) (u := Value.none) J rfl q
  | .brk, ⟨_, _, _, q⟩ => exact q.elim
  | .cont, ⟨_, _, _, q⟩ => exact q.elim
end
section
variable {X : Cx} {CX : CXT} {j k : Nat} {f : Addr} {fd : FuncData} {ps ks : List Str} {sp : Sp} {dvs : List V} {ds : List Value} {E : XK} {x : Str} {p pos : Pos} {e : Expr} {es : List Expr} {kws : List Keyword} {t tk : TA} {n : Nat}
  {g : List Value → List Value → List Value} {gV : List V → List V → List V}
theorem run_fnG {pins : List (Addr × Obj)} {σ : L2.St} {H : Hp} {s : Shared} {Q : VK} {us ws : List Value} {vs zs : List V} (F : FnG X.prog X.w X.K X.mg X.base CX k f fd ps sp) (hr : RoomG k X.A) (hb : KBn X.K fd ps n ks g gV) (hx : Passes CX X E)
    (I : Inv X pins σ H s) (r : Vals vs us) (rz : Vals zs ws) (hn : us.length = n) (hk : ws.length = ks.length) (h : sp (gV vs zs) H Q E) : wpAny (model X.prog X.w) X.A (call (.ref f) us (ks.zip ws)) (EP X pins σ Q) X.xe s := by
  refine wpAny_call (codeAny_mono (F.go X.A X.stack s H ⟨us, ks.zip ws⟩ (g us ws) (gV vs zs) Q E hr I.env0 (hb.to s us ws I.kIn hn hk) (hb.rel r rz) h) fun res s' hq => ?_)
  match res, hq with
  | .error e, hq => exact hx pins σ H s e s' I hq
  | .ok (.ret u), hq => exact I.after hq
  | .ok .next, hq => exact hq.elim
  | .ok .brk, hq => exact hq.elim
  | .ok .cont, hq => exact hq.elim
theorem binds_kb (hb : Binds X.K fd ps []) : KBn X.K fd ps ps.length [] (fun us _ => us) (fun vs _ => vs) :=
  ⟨fun s us ws hK h1 h2 => by
    have z := hb s us hK (by rw [List.append_nil]; exact h1)
    rw [List.append_nil] at z
    exact z, fun a _ => a⟩
/-- f(e, ..), every argument by its place -/
theorem pe_cdG (F : FnG X.prog X.w X.K X.mg X.base CX k f fd ps sp) (hr : RoomG j X.A) (hj : k ≤ j) (hm : X.mg x = some (.ref f)) (hk : PySem.W.keepIn X.K (.ref f) = true) (hb : Binds X.K fd ps []) (hx : Passes CX X E) (ha : PA X (e :: es) t) (hg : Gl X x := by rfl)
    (hdb : (x == ("__debug__" : Str)) = false := by decide) (he : starEach (e :: es) X.env = (false, eval e X.env) :: starEach es X.env := by rfl) (hpl : (backTo pos (starEach es X.env)).any (·.1) = false := by rfl) :
    PE X (.Call (.Name x p) (e :: es) [] pos) (tCall sp [] E t) := by
  refine ⟨fun pins s σ H Q I h => ?_⟩
  refine wpAny_Call_Name_kw (ld_glob I hg hm ?_ hdb)
  refine PySem.W.callWith_K (h₀ := X.base) I.ok.mod.kin hk (thn (ha.run pos pins s σ H _ I h) fun us s1 ⟨vs, H1, I1, r, q⟩ => ⟨I1.kIn, ?_⟩) he hpl
  have q2 : sp vs H1 Q E := by
    have z : sp (vs ++ []) H1 Q E := q
    rwa [List.append_nil] at z
  have hl : us.length = ps.length := by rw [← r.length]; exact F.len _ _ _ _ q2
  exact run_fnG (us := us) (vs := vs) (ks := []) (ws := []) (zs := []) F (hr.mono hj) (binds_kb hb) hx I1 r .nil hl rfl q2
end
section
variable {X : Cx}
/-- repr(x) of data at any depth -/
def rRepr (K : PySem.W.Frag) : List V → Hp → VK → Prop := fun xs H Q => ∃ (x : V) (d : PyData), xs = [x] ∧ Dp K H x d ∧ d.showable = true ∧ d.hasDict = false ∧ d.depth ≤ 150 ∧ d.shown.length ≤ sizeLine ∧ Q (.str d.shown) H
theorem call_repr (hg : X.A.guards = some []) (hu : X.A.units + 151 < cLine) : CallR X (.builtin "repr") (rRepr X.K) := by
  intro pins s σ H xs us Q I r h
  obtain ⟨x, d, rfl, hd, hs, hn, hdep, hsz, q⟩ := h
  obtain ⟨u, rfl, rx⟩ := vals1 r
  obtain ⟨as, rd⟩ := Dp.reads I d x u hd rx
  have rd0 := rd
  cases rd with
  | none => exact PySem.P.repr_of_none ⟨.str _, H, I.tok _, ⟨_, rfl⟩, q⟩
  | bool b => exact PySem.P.repr_of_bool ⟨.str _, H, I.tok _, ⟨_, rfl⟩, q⟩
  | int i t => exact PySem.P.repr_of_int (of_decide_eq_true hs) ⟨.str _, H, I.tok _, ⟨_, rfl⟩, q⟩
  | str z t => exact PySem.P.repr_of_str ⟨.str _, H, I.tok _, ⟨_, rfl⟩, q⟩ hsz
  | list h1 h2 h3 h4 => exact repr_of_reads' rd0 hs (fun z => by rw [hn] at z; cases z) hg (by omega) (fun _ _ e => e) (fun h' u tk hk => ⟨.str _, H, I.kept hk, ⟨_, rfl⟩, q⟩) hsz
  | tuple h1 h2 h3 h4 => exact repr_of_reads' rd0 hs (fun z => by rw [hn] at z; cases z) hg (by omega) (fun _ _ e => e) (fun h' u tk hk => ⟨.str _, H, I.kept hk, ⟨_, rfl⟩, q⟩) hsz
  | dict h1 h2 h3 h4 h5 => cases hn
end
section
/-- the head, for a law whose promise wants that no repr is under way -/
theorem law_goG {P : Program} {w : World} {K : PySem.W.Frag} {mg mb : Str → Option Value} {k : Nat} {fa a : Addr} {fd : FuncData} {x : Str} {sp : Sp} {s₁ : Shared} {vs : List Value} {ns : List Int}
    (KX : K.In s₁.heap) (hns : s₁.heap.Ns mainGlobals mg) (hb : s₁.heap.Ns builtinsNs mb) (hbb : ∀ x : Str, x ≠ "__name__" → mb x = bootBuiltins x) (hlim : s₁.heap.NoLimit) (hg : s₁.gens = #[])
    (ha : s₁.heap.get? a = some { cls := .type "list", data := .seq vs.toArray }) (hi : IntsAre vs ns) (hl : ns.length ≤ sizeLine) (hr : RoomG k callerA)
    (F : ∀ base : Heap, K.In base → base.Ns mainGlobals mg → FnG P w K mg base CX0 k fa fd [x] sp) (hbind : ∀ (s : Shared) (u : Value), BindsTo s fd ⟨[u], []⟩ [(x, u)])
    (hsp : ∀ H : Hp, Only H → SqL K H a (ns.map V.int) → sp [.ref a] H (fun v _ => v = .bl true) fun _ _ _ => False) :
    codeAny (model P w) callerA (.call (.ref fa) ⟨[.ref a], []⟩) (fun r s' => r = .ok (.ret (.bool true)) ∧ OldK s₁.heap s'.heap ∧ s'.os = s₁.os ∧ AllBare s'.gens) s₁ := by
  have rv := vals_ints hi
  have run : ∀ G : Hp, Only G → SqL K G a (ns.map V.int) → HOk P w G s₁.heap → (∀ b, G b ≠ none → b = a) → (G a ≠ none → K.lookup a = none) →
      codeAny (model P w) callerA (.call (.ref fa) ⟨[.ref a], []⟩) (fun r s' => r = .ok (.ret (.bool true)) ∧ OldK s₁.heap s'.heap ∧ s'.os = s₁.os ∧ AllBare s'.gens) s₁ := by
    intro G gO gS gok gA gK
    have inB : ∀ {b : Addr} {o : Obj}, s₁.heap.get? b = some o → G b = none → (hidT s₁.heap G).get? b = some o := fun e n => hidT_get e n
    have only : ∀ {b : Addr} {u : HO}, G b = some u → b = a := fun {b u} q => gA b (by rw [q]; exact Option.some_ne_none _)
    have free : ∀ {b : Addr} {o : Obj} {es : Array DictEntry} {ep : Nat}, s₁.heap.get? b = some o → o.data = .dict es ep → G b = none := fun {b o es ep} e d => by
      cases q : G b with
      | none => rfl
      | some u =>
        cases only q
        rw [ha] at e
        cases e
        exact nomatch (show Data.seq vs.toArray _ = Data.dict es ep from d)
    have names : ∀ {b : Addr} {m : Str → Option Value}, s₁.heap.Ns b m → (hidT s₁.heap G).Ns b m := fun {b m} ⟨o, es, ep, e, d, r⟩ => ⟨o, es, ep, inB e (free e d), d, r⟩
    have kB : K.In (hidT s₁.heap G) := fun b o e => inB (KX b o e) (by
      cases q : G b with
      | none => rfl
      | some u =>
        cases only q
        have z := gK (by rw [q]; exact Option.some_ne_none _)
        rw [z] at e
        cases e)
    have md : Mod K mg (hidT s₁.heap G) := ⟨kB, names hns, ⟨mb, names hb, hbb⟩, let ⟨mc, h1, h2⟩ := hlim; ⟨mc, names h1, h2⟩⟩
    have e0 : Env0 P w K mg (hidT s₁.heap G) callerA [] s₁ G := ⟨rfl, md, fun b o e => of_hidT e, Nat.le_of_eq (hidT_size _ _), trivial, fun b z => absurd (show b ∈ ([] : List Addr) from z) List.not_mem_nil, gok, .of_eq hg⟩
    refine codeAny_mono ((F _ kB (names hns)).go callerA [] s₁ G ⟨[.ref a], []⟩ [.ref a] [.ref a] _ _ hr e0 (hbind s₁ (.ref a)) (.cons rfl .nil) (hsp G gO gS)) fun r s' h => ?_
    match r, h with
    | .error e, h => exact False.elim h
    | .ok .next, h => exact False.elim h
    | .ok .brk, h => exact False.elim h
    | .ok .cont, h => exact False.elim h
    | .ok (.ret u), h =>
      obtain ⟨v, G', os, bare, un, gok', r', q⟩ := h
      cases (show v = V.bl true from q)
      cases (show u = Value.bool true from r')
      refine ⟨rfl, OldK.of_keep fun b o e => ?_, os, bare⟩
      cases q : G b with
      | none => exact un.keep b o e q (fun z => absurd (show b ∈ ([] : List Addr) from z) List.not_mem_nil) List.not_mem_nil
      | some u =>
        rcases gO b with z | ⟨ob, xs, z⟩
        · rw [q] at z
          cases z
        · have z2 := un.frzs b ob _ z
          have e1 := (gok b _ z).1
          have e2 := (gok' b _ z2).1
          rw [e] at e1
          cases e1
          exact e2
  cases hk : K.lookup a with
  | some o =>
    have e := KX a o hk
    rw [ha] at e
    cases e
    exact run (fun _ => none) (fun _ => .inl rfl) (.inr ⟨_, vs.toArray, _, hk, rfl, rfl, rfl, by rw [List.size_toArray, hi.length]; exact hl, by simpa using rv⟩) (fun b u z => nomatch (show (none : Option HO) = some u from z)) (fun b z => absurd rfl z) fun z => absurd rfl z
  | none =>
    have at_ : ∀ b, b = a → (fun b => if b = a then some (HO.frz { cls := .type "list", data := .seq vs.toArray } (.lst (ns.map V.int))) else none) b = some (.frz { cls := .type "list", data := .seq vs.toArray } (.lst (ns.map V.int))) := fun b e => if_pos e
    have no_ : ∀ b, b ≠ a → (fun b => if b = a then some (HO.frz { cls := .type "list", data := .seq vs.toArray } (.lst (ns.map V.int))) else none) b = none := fun b e => if_neg e
    refine run (fun b => if b = a then some (.frz { cls := .type "list", data := .seq vs.toArray } (.lst (ns.map V.int))) else none) (fun b => ?_) (.inl (.inr ⟨{ cls := .type "list", data := .seq vs.toArray }, if_pos rfl⟩)) (fun b u z => ?_) (fun b z => ?_) fun _ => hk
    · by_cases e : b = a
      · exact .inr ⟨_, _, at_ b e⟩
      · exact .inl (no_ b e)
    · by_cases e : b = a
      · have z2 := (at_ b e).symm.trans z
        cases z2
        subst e
        exact ⟨ha, by rw [List.length_map]; exact hl, vs, _, rv, ha⟩
      · exact nomatch (no_ b e).symm.trans z
    · by_cases e : b = a
      · exact e
      · exact absurd (no_ b e) z
/-- the goal that the head leaves, as walk_of -/
theorem walk_ofG {l : PySem.W.OpenLaw} {n k : Nat} {q : Program} {loose : List Str} {XP : (Str → Option Value) → Heap → Prop} {YP : World → Heap → Prop} {d : DefRec} {K : Params → PySem.W.Frag} {sp : World → Sp} {x : Str}
    (hn : l.most = some n) (hn2 : n ≤ sizeLine) (hdf : d.params.defaults = []) (hr : RoomG k callerA) (hY : ∀ (w : World) (h : Heap), YP w h → (K w.params).In h)
    (F : ∀ (w : World) (mg : Str → Option Value) (fa : Addr) (h : Heap), (K w.params).In h → h.Ns mainGlobals mg → mg d.name = some (.ref fa) →
      ∃ fd : FuncData, (∀ (s : Shared) (u : Value), BindsTo s fd ⟨[u], []⟩ [(x, u)]) ∧ ∀ base : Heap, (K w.params).In base → base.Ns mainGlobals mg → FnG l.prog w (K w.params) mg base CX0 k fa fd [x] (sp w))
    (hsp : ∀ (w : World) (H : Hp) (a : Addr) (ns : List Int), ns.length ≤ n → Only H → SqL (K w.params) H a (ns.map V.int) → sp w [.ref a] H (fun v _ => v = .bl true) fun _ _ _ => False) :
    PySem.W.WalkO q loose XP YP l.row.toRowW d [] (fun f vs => PySem.call f vs) := by
  refine Att.attach_call hn hdf fun w s₀ s₁ mg mb fa o pm cd doc a vs ns G Y ho hd hcd hmg hobj hints hlen hg => ?_
  obtain ⟨fd, hb, hF⟩ := F w mg fa _ (hY w _ Y) G.T.g hmg
  exact law_goG (hY w _ Y) G.T.g G.T.b G.T.builtins G.T.nolimit hg hobj hints (Nat.le_trans hlen hn2) hr hF hb fun H hO hS => hsp w H a ns hlen hO hS
end
end TG
/-! writings: what they are, how they stand in the heap, their free names -/
namespace TG
open PySem PySem.Spec L2
open PyProof.Rows hiding St
/-- a writing -/
inductive Wr where
  | nm (z : Str)
  | of (x : Str) (b : Wr)
  | to (a b : Wr)
namespace Wr
/-- its signs -/
def sg : Wr → Nat
  | nm _ => 1
  | of _ b => b.sg + 1
  | to a b => a.sg + b.sg + 1
/-- its layers -/
def ly : Wr → Nat
  | nm _ => 1
  | of _ b => b.ly + 1
  | to a b => max a.ly b.ly + 1
/-- all its names are good -/
def all (p : Str → Bool) : Wr → Bool
  | nm z => p z
  | of x b => p x && b.all p
  | to a b => a.all p && b.all p
/-- its free names, each once, as they first stand -/
def fr : Wr → List Str
  | nm z => [z]
  | of x b => b.fr.filter fun z => decide (z ≠ x)
  | to a b => a.fr ++ b.fr.filter fun z => decide (z ∉ a.fr)
/-- told in tuples -/
def d : Wr → PyData
  | nm z => .str z
  | of x b => .tuple [.str "of", .str x, b.d]
  | to a b => .tuple [.str "to", a.d, b.d]
/-- told in lists -/
def dl : Wr → PyData
  | nm z => .str z
  | of x b => .list [.str "of", .str x, b.dl]
  | to a b => .list [.str "to", a.dl, b.dl]
theorem sg_pos : ∀ w : Wr, 1 ≤ w.sg
  | nm _ => Nat.le_refl _
  | of _ b => by show 1 ≤ b.sg + 1; omega
  | to a b => by show 1 ≤ a.sg + b.sg + 1; omega
theorem ly_pos : ∀ w : Wr, 1 ≤ w.ly
  | nm _ => Nat.le_refl _
  | of _ b => Nat.succ_le_succ (Nat.zero_le _)
  | to a b => Nat.succ_le_succ (Nat.zero_le _)
theorem ly_sg : ∀ w : Wr, w.ly ≤ w.sg
  | nm _ => Nat.le_refl _
  | of _ b => Nat.succ_le_succ (ly_sg b)
  | to a b => by
    have h1 := ly_sg a
    have h2 := ly_sg b
    show max a.ly b.ly + 1 ≤ a.sg + b.sg + 1
    omega
theorem fr_len : ∀ w : Wr, w.fr.length ≤ w.sg
  | nm _ => Nat.le_refl _
  | of x b => Nat.le_succ_of_le (Nat.le_trans (List.length_filter_le _ _) (fr_len b))
  | to a b => by
    have h1 := fr_len a
    have h2 := fr_len b
    have h3 := List.length_filter_le (fun z => decide (z ∉ a.fr)) b.fr
    show (a.fr ++ b.fr.filter fun z => decide (z ∉ a.fr)).length ≤ a.sg + b.sg + 1
    rw [List.length_append]
    omega
theorem fr_nodup : ∀ w : Wr, w.fr.Nodup
  | nm _ => List.nodup_cons.mpr ⟨List.not_mem_nil, List.nodup_nil⟩
  | of x b => (fr_nodup b).filter _
  | to a b => by
    refine List.nodup_append.mpr ⟨fr_nodup a, (fr_nodup b).filter _, fun x hx y hy e => ?_⟩
    subst e
    exact (of_decide_eq_true (List.mem_filter.mp hy).2) hx
theorem fr_all {p : Str → Bool} : ∀ {w : Wr}, w.all p = true → ∀ z ∈ w.fr, p z = true
  | nm z, h, y, hy => by cases List.mem_singleton.mp hy; exact h
  | of x b, h, y, hy => fr_all (Bool.and_eq_true_iff.mp h).2 y (List.mem_filter.mp hy).1
  | to a b, h, y, hy => by
    rcases List.mem_append.mp hy with hy | hy
    · exact fr_all (Bool.and_eq_true_iff.mp h).1 y hy
    · exact fr_all (Bool.and_eq_true_iff.mp h).2 y (List.mem_filter.mp hy).1
/-- the walk: around are the names bound, found those that stand ahead -/
def go : Wr → List Str → List Str → List Str
  | nm z, ar, f => if z ∈ ar ++ f then f else f ++ [z]
  | of x b, ar, f => b.go (ar ++ [x]) f
  | to a b, ar, f => b.go ar (a.go ar f)
theorem go_eq : ∀ (w : Wr) (ar f : List Str), w.go ar f = f ++ w.fr.filter fun z => decide (z ∉ ar ++ f)
  | nm z, ar, f => by
    show (if z ∈ ar ++ f then f else f ++ [z]) = f ++ [z].filter _
    by_cases h : z ∈ ar ++ f
    · rw [if_pos h, List.filter_cons_of_neg (by simp [h])]
      simp
    · rw [if_neg h, List.filter_cons_of_pos (by simpa using h)]
      rfl
  | of x b, ar, f => by
    show b.go (ar ++ [x]) f = f ++ (b.fr.filter _).filter _
    rw [go_eq b, List.filter_filter]
    congr 1
    refine List.filter_congr fun z _ => ?_
    simp only [List.mem_append, List.mem_singleton, not_or]
    by_cases h1 : z ∈ ar <;> by_cases h2 : z ∈ f <;> by_cases h3 : z = x <;> simp [h1, h2, h3]
  | to a b, ar, f => by
    show b.go ar (a.go ar f) = f ++ (a.fr ++ b.fr.filter _).filter _
    rw [go_eq b, go_eq a, List.filter_append, List.append_assoc, List.filter_filter]
    congr 2
    refine List.filter_congr fun z _ => ?_
    simp only [List.mem_append, List.mem_filter, not_or]
    by_cases h1 : z ∈ ar <;> by_cases h2 : z ∈ f <;> by_cases h3 : z ∈ a.fr <;> simp [h1, h2, h3]
/-- all these bound in front -/
def close (w : Wr) (l : List Str) : Wr := l.foldl (fun c x => .of x c) w
theorem frs_close : ∀ (l : List Str) (w : Wr), (w.close l).fr = w.fr.filter fun z => decide (z ∉ l)
  | [], w => by
    show w.fr = w.fr.filter _
    exact (List.filter_eq_self.mpr fun z _ => decide_eq_true List.not_mem_nil).symm
  | x :: l, w => by
    show ((Wr.of x w).close l).fr = _
    rw [frs_close l]
    show (w.fr.filter _).filter _ = _
    rw [List.filter_filter]
    refine List.filter_congr fun z _ => ?_
    by_cases h1 : z = x <;> by_cases h2 : z ∈ l <;> simp [h1, h2]
theorem sg_close : ∀ (l : List Str) (w : Wr), (w.close l).sg = w.sg + l.length
  | [], _ => rfl
  | x :: l, w => by
    show ((Wr.of x w).close l).sg = _
    rw [sg_close l]
    show w.sg + 1 + l.length = w.sg + (l.length + 1)
    omega
theorem all_close {p : Str → Bool} : ∀ (l : List Str) (w : Wr), w.all p = true → (∀ z ∈ l, p z = true) → (w.close l).all p = true
  | [], _, h, _ => h
  | x :: l, w, h, k => all_close l (.of x w) (Bool.and_eq_true_iff.mpr ⟨k x List.mem_cons_self, h⟩) fun z hz => k z (List.mem_cons_of_mem _ hz)
theorem close_fr (w : Wr) : (w.close w.fr).fr = [] := by
  rw [frs_close]
  exact List.filter_eq_nil_iff.mpr fun z hz => by simp [hz]
theorem close_snoc (w : Wr) (l : List Str) (x : Str) : w.close (l ++ [x]) = .of x (w.close l) := by
  show (l ++ [x]).foldl _ w = _
  rw [List.foldl_append]
  rfl
theorem go_nil (w : Wr) : w.go [] [] = w.fr := by
  rw [go_eq]
  simp
end Wr
/-- it stands at v, in tuples -/
inductive WA (H : Hp) : V → Wr → Prop where
  | nm (z : Str) : WA H (.str z) (.nm z)
  | of {a : Addr} {x : Str} {v : V} {b : Wr} : H a = some (.tup [.str "of", .str x, v]) → WA H v b → WA H (.ref a) (.of x b)
  | to {a : Addr} {u v : V} {b c : Wr} : H a = some (.tup [.str "to", u, v]) → WA H u b → WA H v c → WA H (.ref a) (.to b c)
/-- in lists, none of which stands at p -/
inductive LA (p : Addr) (H : Hp) : V → Wr → Prop where
  | nm (z : Str) : LA p H (.str z) (.nm z)
  | of {a : Addr} {x : Str} {v : V} {b : Wr} : a ≠ p → H a = some (.lst [.str "of", .str x, v]) → LA p H v b → LA p H (.ref a) (.of x b)
  | to {a : Addr} {u v : V} {b c : Wr} : a ≠ p → H a = some (.lst [.str "to", u, v]) → LA p H u b → LA p H v c → LA p H (.ref a) (.to b c)
theorem WA.mono {H H' : Hp} {v : V} {w : Wr} (h : WA H v w) (k : ∀ a xs, H a = some (.tup xs) → H' a = some (.tup xs)) : WA H' v w := by
  induction h with
  | nm z => exact .nm z
  | of e _ ih => exact .of (k _ _ e) ih
  | to e _ _ i1 i2 => exact .to (k _ _ e) i1 i2
theorem WA.same {H H' : Hp} {v : V} {w : Wr} (h : WA H v w) (s : Same H H') : WA H' v w := h.mono fun a xs e => s _ _ e
theorem LA.mono {p : Addr} {H H' : Hp} {v : V} {w : Wr} (h : LA p H v w) (k : ∀ a o, a ≠ p → H a = some o → H' a = some o) : LA p H' v w := by
  induction h with
  | nm z => exact .nm z
  | of n e _ ih => exact .of n (k _ _ n e) ih
  | to n e _ _ i1 i2 => exact .to n (k _ _ n e) i1 i2
theorem WA.dp {K : PySem.W.Frag} {H : Hp} {v : V} {w : Wr} (h : WA H v w) : Dp K H v w.d := by
  induction h with
  | nm z => exact .str z
  | of e _ ih => exact .tup (SqT.of e) (.cons (.str _) (.cons (.str _) (.cons ih .nil)))
  | to e _ _ i1 i2 => exact .tup (SqT.of e) (.cons (.str _) (.cons i1 (.cons i2 .nil)))
theorem LA.dp {K : PySem.W.Frag} {p : Addr} {H : Hp} {v : V} {w : Wr} (h : LA p H v w) : Dp K H v w.dl := by
  induction h with
  | nm z => exact .str z
  | of n e _ ih => exact .lst (SqL.of e) (.cons (.str _) (.cons (.str _) (.cons ih .nil)))
  | to n e _ _ i1 i2 => exact .lst (SqL.of e) (.cons (.str _) (.cons i1 (.cons i2 .nil)))
/-- what a value tells, be it lists or tuples -/
inductive Tells : PyData → Wr → Prop where
  | nm (z : Str) : Tells (.str z) (.nm z)
  | ofT {x : Str} {e : PyData} {b : Wr} : Tells e b → Tells (.tuple [.str "of", .str x, e]) (.of x b)
  | ofL {x : Str} {e : PyData} {b : Wr} : Tells e b → Tells (.list [.str "of", .str x, e]) (.of x b)
  | toT {e g : PyData} {b c : Wr} : Tells e b → Tells g c → Tells (.tuple [.str "to", e, g]) (.to b c)
  | toL {e g : PyData} {b c : Wr} : Tells e b → Tells g c → Tells (.list [.str "to", e, g]) (.to b c)
theorem tells_d : ∀ w : Wr, Tells w.d w
  | .nm z => .nm z
  | .of _ b => .ofT (tells_d b)
  | .to a b => .toT (tells_d a) (tells_d b)
theorem tells_dl : ∀ w : Wr, Tells w.dl w
  | .nm z => .nm z
  | .of _ b => .ofL (tells_dl b)
  | .to a b => .toL (tells_dl a) (tells_dl b)
/-- a name that the rules let be one -/
def okN (z : Str) : Bool := decide (z ≠ "of") && decide (z ≠ "to") && (decide (1 ≤ z.length) && decide (z.length ≤ 12)) &&
  (match z.cps.toList with
    | [] => false
    | c :: r => decide (97 ≤ c ∧ c ≤ 122) && r.all fun c => decide (97 ≤ c ∧ c ≤ 122) || decide (48 ≤ c ∧ c ≤ 57))
/-- a tuple of names, shown -/
def nmsD (l : List Str) : PyData := .tuple (l.map PyData.str)
theorem nms_showable : ∀ l : List Str, (nmsD l).showable = true
  | [] => rfl
  | z :: r => nms_showable r
theorem nms_noDict : ∀ l : List Str, (nmsD l).hasDict = false
  | [] => rfl
  | z :: r => nms_noDict r
theorem nms_depth : ∀ l : List Str, (nmsD l).depth ≤ 1
  | [] => Nat.le_refl _
  | z :: r => by
    have h := nms_depth r
    show max 0 (PyData.depthAll (r.map PyData.str)) + 1 ≤ 1
    have h2 : PyData.depthAll (r.map PyData.str) + 1 ≤ 1 := h
    omega
theorem ok_signs {z : Str} (h : okN z = true) : z.length ≤ 12 ∧ z.cps.toList.all (fun c => decide (c < 128)) = true := by
  unfold okN at h
  simp only [Bool.and_eq_true, decide_eq_true_eq] at h
  obtain ⟨⟨_, _, h1⟩, h2⟩ := h
  refine ⟨h1, ?_⟩
  revert h2
  cases z.cps.toList with
  | nil => intro h2; rfl
  | cons c r =>
    intro h2
    simp only [Bool.and_eq_true, decide_eq_true_eq, List.all_eq_true] at h2
    rw [List.all_cons, Bool.and_eq_true]
    refine ⟨decide_eq_true (by omega), List.all_eq_true.mpr fun x hx => decide_eq_true ?_⟩
    have z2 := h2.2 x hx
    simp only [Bool.or_eq_true, decide_eq_true_eq] at z2
    omega
theorem nms_short {l : List Str} (h : ∀ z ∈ l, okN z = true) : (nmsD l).leavesShort 8 = true ∧ (nmsD l).bulk ≤ 13 * l.length := by
  induction l with
  | nil => exact ⟨rfl, Nat.zero_le _⟩
  | cons z r ih =>
    obtain ⟨h1, h2⟩ := ih fun y hy => h y (List.mem_cons_of_mem _ hy)
    obtain ⟨z1, z2⟩ := ok_signs (h z List.mem_cons_self)
    refine ⟨?_, ?_⟩
    · show (PyData.leavesShort 8 (.str z) && PyData.leavesShortAll 8 (r.map PyData.str)) = true
      rw [Bool.and_eq_true]
      refine ⟨?_, h1⟩
      show (z.cps.toList.all fun c => decide (c < 16 ^ 8)) = true
      refine List.all_eq_true.mpr fun c hc => decide_eq_true ?_
      have e := of_decide_eq_true (List.all_eq_true.mp z2 c hc)
      exact Nat.lt_trans e (by decide)
    · have h3 : PyData.bulkAll (r.map PyData.str) ≤ 13 * r.length := h2
      have h4 : z.cps.size ≤ 12 := z1
      show z.cps.size + 1 + PyData.bulkAll (r.map PyData.str) ≤ 13 * (r.length + 1)
      omega
theorem nms_fits {l : List Str} (h : ∀ z ∈ l, okN z = true) (hl : l.length ≤ 2000) : (nmsD l).shown.length ≤ sizeLine := by
  obtain ⟨h1, h2⟩ := nms_short h
  exact PyData.shown_fits_bulk (B := 8) (by decide) (by decide) h1 (by omega)
theorem nms_lay {l : List Str} (h : ∀ z ∈ l, okN z = true) : SeqAt.shaped (nmsD l) = true := by
  unfold SeqAt.shaped
  rw [Bool.and_eq_true]
  refine ⟨?_, decide_eq_true (Nat.le_trans (nms_depth l) (by decide))⟩
  induction l with
  | nil => rfl
  | cons z r ih =>
    show (PyData.canLay0 (.str z) && PyData.canLayAll0 (r.map PyData.str)) = true
    rw [Bool.and_eq_true]
    refine ⟨?_, ih fun y hy => h y (List.mem_cons_of_mem _ hy)⟩
    obtain ⟨_, z2⟩ := ok_signs (h z List.mem_cons_self)
    show (z.cps.all fun c => decide (c < 0x110000)) = true
    rw [← Array.all_toList]
    refine List.all_eq_true.mpr fun c hc => decide_eq_true ?_
    exact Nat.lt_trans (of_decide_eq_true (List.all_eq_true.mp z2 c hc)) (by decide)
theorem dp_strs {K : PySem.W.Frag} {H : Hp} : ∀ l : List Str, DpAll K H (l.map V.str) (l.map PyData.str)
  | [] => .nil
  | z :: r => .cons (.str z) (dp_strs r)
/-- what free_names promises: of any value that tells a good writing, the tuple of its free names -/
def spFree (K : PySem.W.Frag) : Sp := fun vs H Q _ => ∃ (v : V) (e : PyData) (w : Wr), vs = [v] ∧ Dp K H v e ∧ Tells e w ∧ w.all okN = true ∧ w.sg ≤ 2000 ∧ w.ly ≤ 200 ∧
  ∀ (a : Addr) (H' : Hp), Same H H' → SqT K H' a (w.fr.map V.str) → Q (.ref a) H'
end TG
namespace TF07
open PySem PySem.Spec L2 TG
open PyProof.Rows hiding St
section
variable {X : Cx} {k j : Nat} {f : Addr} {fd : FuncData} {ps : List Str} {sp : Sp} {x : Str} {st : Stmt} {p pos : Pos} {e : Expr} {es : List Expr} {t tk : TA}
theorem pe_cg (D : Df X.K X.mg x st f fd ps) (F : FnG X.prog X.w X.K X.mg X.base CX0 k f fd ps sp) (hr : RoomG j X.A) (hj : k ≤ j) (ha : PA X (e :: es) t) (hg : Gl X x := by rfl)
    (hdb : (x == ("__debug__" : Str)) = false := by decide) (he : starEach (e :: es) X.env = (false, eval e X.env) :: starEach es X.env := by rfl) (hpl : (backTo pos (starEach es X.env)).any (·.1) = false := by rfl) :
    PE X (.Call (.Name x p) (e :: es) [] pos) (tCall sp [] E0 t) := pe_cdG F hr hj D.m D.F.kp D.b pass0 ha hg hdb he hpl
end
theorem WA.keep {n : Nat} {p c : Addr} {H H' : Hp} {v : V} {w : Wr} (h : WA H v w) (hp : PenAt n H p c) (k : Keep p H H') : WA H' v w := by
  obtain ⟨xs, e⟩ := hp.lst
  exact h.mono fun a ys ha => k a _ (fun z => by subst z; rw [e] at ha; cases ha) ha
/-! ### a drawn writing -/
abbrev sDrawn : Stmt := top 42
theorem scDrawn : FnScope ["chest", "signs", "names", "first"] ["chest", "signs", "names"] (defScope sDrawn) := ⟨rfl, rfl, rfl, by decide +kernel, rfl, by decide +kernel, by decide +kernel⟩
/-- layers of a drawn writing of g signs -/
def LyP (g l : Nat) : Prop := (g ≤ 20 → l ≤ g) ∧ (g ≤ 31 → l ≤ 21) ∧ (g ≤ 47 → l ≤ 22) ∧ (g ≤ 71 → l ≤ 23) ∧ (g ≤ 107 → l ≤ 24) ∧ (g ≤ 161 → l ≤ 25) ∧ (g ≤ 242 → l ≤ 26)
theorem LyP.of {g l : Nat} (h : LyP (g - 1) l) (g1 : 1 ≤ g) (c : g ≤ 20) : LyP g (l + 1) := by
  unfold LyP at *
  omega
theorem LyP.sm {g a b x y : Nat} (h : LyP a x) (k : LyP b y) (c : g ≤ 20) (e : a + b + 1 = g) : LyP g (max x y + 1) := by
  unfold LyP at *
  omega
theorem LyP.gr {g a b x y : Nat} (h : LyP a x) (k : LyP b y) (c : 21 ≤ g) (c2 : g ≤ 200) (e : a + b + 1 = g) (h1 : g / 3 ≤ a) (h2 : a < 2 * (g / 3)) : LyP g (max x y + 1) := by
  unfold LyP at *
  omega
def spDrawn (n : Nat) : Sp := fun vs H Q _ => ∃ (p c l : Addr) (g : Nat) (names : List Str) (m : Nat), vs = [.ref p, .int (g : Int), .ref l] ∧ PenAt m H p c ∧ m + 4 * g ≤ 90000 ∧ 1 ≤ g ∧ g ≤ n ∧ g ≤ 200 ∧ l ≠ p ∧ H l = some (.lst (names.map V.str)) ∧ names ≠ [] ∧ names.length ≤ 1000 ∧
  ∀ (v : V) (w : Wr) (H' : Hp), WA H' v w → w.sg = g → LyP g w.ly → w.all (fun z => decide (z ∈ names)) = true → Keep p H H' → PenAt (m + 4 * g) H' p c → Q v H'
section
variable {P : Program} {w : World} {K : PySem.W.Frag} {mg : Str → Option Value} {base : Heap} {f f1 f2 : Addr} {fd d1 d2 : FuncData}
theorem ok_drawn (F : Fun K "_law_drawn" "_law_drawn" sDrawn f fd) (T : Bn mg) (D__law_drawn : Df K mg "_law_drawn" sDrawn f fd ["chest", "signs", "names"])
    (D__law_pull : Df K mg "_law_pull" sDraw f1 d1 ["chest", "many"]) (G__law_pull : FnG P w K mg base CX0 3 f1 d1 ["chest", "many"] spDraw)
    (D__law_some : Df K mg "_law_some" sPick f2 d2 ["chest", "some"]) (G__law_some : FnG P w K mg base CX0 6 f2 d2 ["chest", "some"] (spPick K)) : ∀ n : Nat, FnG P w K mg base CX0 (n + 7) f fd ["chest", "signs", "names"] (spDrawn n) := by
  intro n
  induction n with
  | zero =>
    refine fun_okG F scDrawn (fun vs H Q E h => ?_) (fun cdv A outer s H vs Q E hr h => ?_)
    · obtain ⟨p, c, l, g, names, m, rfl, _⟩ := h
      rfl
    obtain ⟨p, c, l, g, names, m, rfl, _, _, h1, h2, _⟩ := h
    omega
  | succ n G__law_drawn =>
  refine fun_okG F scDrawn (fun vs H Q E h => ?_) (fun cdv A outer s H vs Q E hr h => ?_)
  · obtain ⟨p, c, l, g, names, m, rfl, _⟩ := h
    rfl
  obtain ⟨p, c, l, g, names, m, rfl, hp, hm, g1, gn, g2, nl, hl, hne, hlen, q⟩ := h
  have hneV : names.map V.str ≠ [] := fun z => hne (List.map_eq_nil_iff.mp z)
  have hlenV : (names.map V.str).length ≤ 1000000 := by rw [List.length_map]; omega
  refine ⟨_, (pss_cons (ps_if (pt_cmpR op_eq (pv 1) pe_int (nomark _)) (pss_one (ps_ret (pe_cg D__law_some G__law_some hr (by omega) (pa_cons (pv 0) (pa_cons (pv 2) pa_nil))))) pss_nil)
      (pss_cons (ps_if (PW.pt (pw_or (pt_cmpR op_eq (pv 1) pe_int (nomark _)) (pw_or1 (PW.pt (pw_and (pt_cmpR op_lt (pv 1) pe_int (nomark _)) (pw_and1 (pt_cmpR op_gt (pe_cg D__law_pull G__law_pull hr (by omega) (pa_cons (pv 0) (pa_cons pe_int pa_nil))) pe_int (nomark _)))))))) (pss_one (ps_ret (pe_tup (pa_cons pe_str (pa_cons (pe_cg D__law_some G__law_some hr (by omega) (pa_cons (pv 0) (pa_cons (pv 2) pa_nil))) (pa_cons (pe_cg D__law_drawn G__law_drawn hr (by omega) (pa_cons (pv 0) (pa_cons (pe_op op_sub (pv 1) pe_int) (pa_cons (pv 2) pa_nil)))) pa_nil)))))) pss_nil)
      (pss_cons (ps_set (i := 3) scDrawn.nd rfl (.inl rfl) (pe_ifExp (pt_cmpR op_lt (pv 1) pe_int (nomark _)) (pe_op op_add pe_int (pe_cg D__law_pull G__law_pull hr (by omega) (pa_cons (pv 0) (pa_cons (pe_op op_sub (pv 1) pe_int) pa_nil)))) (pe_op op_add (pe_callTy call_int1 (by rfl) T.b_int (by decide +kernel) (pa_cons (pe_op op_fdivN (pv 1) pe_int) pa_nil)) (pe_cg D__law_pull G__law_pull hr (by omega) (pa_cons (pv 0) (pa_cons (pe_callTy call_int1 (by rfl) T.b_int (by decide +kernel) (pa_cons (pe_op op_fdivN (pv 1) pe_int) pa_nil)) pa_nil))))))
      (pss_one (ps_ret (pe_tup (pa_cons pe_str (pa_cons (pe_cg D__law_drawn G__law_drawn hr (by omega) (pa_cons (pv 0) (pa_cons (pv 3) (pa_cons (pv 2) pa_nil)))) (pa_cons (pe_cg D__law_drawn G__law_drawn hr (by omega) (pa_cons (pv 0) (pa_cons (pe_op op_sub (pe_op op_sub (pv 1) pe_int) (pv 3)) (pa_cons (pv 2) pa_nil)))) pa_nil))))))))), ?_⟩
  refine ⟨_, rfl, rfl, _, rfl, ?_⟩
  rw [dec_int]
  refine ite2 (fun c1 => ?_) (fun c1 => ?_)
  · have eg : g = 1 := by have z := eq_of_beq c1; omega
    refine ⟨_, rfl, _, rfl, p, c, l, _, m, rfl, hp, by omega, nl, hl, hneV, hlenV, fun v H' hv k hp' => ?_⟩
    obtain ⟨z, hz, rfl⟩ := List.mem_map.mp hv
    exact q _ (.nm z) H' (.nm z) (by show 1 = g; omega) (by show LyP g 1; unfold LyP; omega) (decide_eq_true hz) k (hp'.up (by omega))
  have ng : g ≠ 1 := fun z => by subst z; exact absurd c1 (by decide)
  refine ⟨_, rfl, rfl, _, rfl, ?_⟩
  rw [dec_int]
  refine ite2 (fun c2 => ?_) (fun c2 => ?_)
  · have eg : g = 2 := by have z := eq_of_beq c2; omega
    have k1 : Keep p H H := Keep.refl p H
    have hp1 : PenAt (m + 1) H p c := hp.up (by omega)
    have hl1 := k1 l _ nl hl
    refine ⟨_, rfl, _, rfl, p, c, l, _, m + 1, rfl, hp1, by omega, nl, hl1, hneV, hlenV, fun v H2 hv k2 hp2 => ?_⟩
    obtain ⟨z, hz, rfl⟩ := List.mem_map.mp hv
    refine ⟨_, rfl, _, rfl, _, _, rfl, rfl, _, rfl, p, c, l, g - 1, names, m + 2, ?_, hp2, by omega, by omega, by omega, by omega, nl, k2 l _ nl hl1, hne, hlen, fun v3 w3 H3 wa3 sg3 ly3 al3 k3 hp3 => ?_⟩
    · show [V.ref p, V.int ((g : Int) - 1), V.ref l] = [V.ref p, V.int ((g - 1 : Nat) : Int), V.ref l]
      rw [show ((g : Int) - 1) = ((g - 1 : Nat) : Int) by omega]
    refine ⟨(by show 3 ≤ sizeLine; decide), fun a ha => ?_⟩
    refine q _ (.of z w3) _ (.of upd_same (wa3.same (same_new ha))) (by show w3.sg + 1 = g; omega) (ly3.of (by omega) (by omega)) (by show (decide (z ∈ names) && w3.all _) = true; rw [decide_eq_true hz, al3]; rfl) (((k1.trans k2).trans k3).trans (Keep.new ha)) ((hp3.same (same_new ha)).up (by omega))
  have ng2 : g ≠ 2 := fun z => by subst z; exact absurd c2 (by decide)
  refine ⟨_, rfl, _, _, rfl, rfl, _, rfl, ?_⟩
  refine ite2 (fun c3 => ?_) (fun c3 => ?_)
  · have g21 : g < 21 := by have z := of_decide_eq_true c3; omega
    refine ⟨_, rfl, p, c, 3, m, rfl, hp, by omega, Dv.of (by decide) (by decide), fun r H1 r0 r1 k1 hp1 => ?_⟩
    have hl1 := k1 l _ nl hl
    refine ⟨_, _, rfl, rfl, _, rfl, ?_⟩
    refine ite2 (fun c4 => ?_) (fun c4 => ?_)
    · skip
      refine ⟨_, rfl, _, rfl, p, c, l, _, m + 1, rfl, hp1, by omega, nl, hl1, hneV, hlenV, fun v H2 hv k2 hp2 => ?_⟩
      obtain ⟨z, hz, rfl⟩ := List.mem_map.mp hv
      refine ⟨_, rfl, _, rfl, _, _, rfl, rfl, _, rfl, p, c, l, g - 1, names, m + 2, ?_, hp2, by omega, by omega, by omega, by omega, nl, k2 l _ nl hl1, hne, hlen, fun v3 w3 H3 wa3 sg3 ly3 al3 k3 hp3 => ?_⟩
      · show [V.ref p, V.int ((g : Int) - 1), V.ref l] = [V.ref p, V.int ((g - 1 : Nat) : Int), V.ref l]
        rw [show ((g : Int) - 1) = ((g - 1 : Nat) : Int) by omega]
      refine ⟨(by show 3 ≤ sizeLine; decide), fun a ha => ?_⟩
      refine q _ (.of z w3) _ (.of upd_same (wa3.same (same_new ha))) (by show w3.sg + 1 = g; omega) (ly3.of (by omega) (by omega)) (by show (decide (z ∈ names) && w3.all _) = true; rw [decide_eq_true hz, al3]; rfl) (((k1.trans k2).trans k3).trans (Keep.new ha)) ((hp3.same (same_new ha)).up (by omega))
    refine ⟨_, rfl, _, _, rfl, rfl, _, rfl, ?_⟩
    refine ite2 (fun _ => ?_) (fun c => absurd c3 c)
    refine ⟨_, rfl, _, rfl, _, _, rfl, rfl, p, c, _, m + 1, rfl, hp1, by omega, Dv.of (by omega) (by omega), fun r2 H2 r20 r21 k2 hp2 => ?_⟩
    obtain ⟨fi, efi⟩ : ∃ fi : Nat, (1 + r2 : Int) = (fi : Int) := ⟨(1 + r2).toNat, by omega⟩
    refine ⟨_, _, rfl, rfl, ?_⟩
    dsimp only
    rw [efi]
    have hl2 := k2 l _ nl hl1
    refine ⟨_, rfl, _, rfl, _, rfl, p, c, l, fi, names, m + 2, rfl, hp2, by omega, by omega, by omega, by omega, nl, hl2, hne, hlen, fun v3 w3 H3 wa3 sg3 ly3 al3 k3 hp3 => ?_⟩
    refine ⟨_, rfl, _, rfl, _, _, rfl, rfl, _, rfl, _, _, rfl, rfl, _, rfl, p, c, l, g - 1 - fi, names, m + 2 + 4 * fi, ?_, hp3, by omega, by omega, by omega, by omega, nl, k3 l _ nl hl2, hne, hlen, fun v4 w4 H4 wa4 sg4 ly4 al4 k4 hp4 => ?_⟩
    · show [V.ref p, V.int ((g : Int) - 1 - (fi : Int)), V.ref l] = [V.ref p, V.int ((g - 1 - fi : Nat) : Int), V.ref l]
      rw [show ((g : Int) - 1 - (fi : Int)) = ((g - 1 - fi : Nat) : Int) by omega]
    refine ⟨(by show 3 ≤ sizeLine; decide), fun a ha => ?_⟩
    refine q _ (.to w3 w4) _ (.to upd_same ((WA.keep wa3 hp3 k4).same (same_new ha)) (wa4.same (same_new ha))) (by show w3.sg + w4.sg + 1 = g; omega) (ly3.sm ly4 (by omega) (by omega)) (by show (w3.all _ && w4.all _) = true; rw [al3, al4]; rfl) ((((k1.trans k2).trans k3).trans k4).trans (Keep.new ha)) ((hp4.same (same_new ha)).up (by omega))
  have g21 : ¬ g < 21 := fun z => c3 (decide_eq_true (by omega))
  have k1 : Keep p H H := Keep.refl p H
  have hl1 := hl
  have e3 : (g : Int).fdiv 3 = ((g / 3 : Nat) : Int) := by rw [Int.fdiv_eq_ediv_of_nonneg _ (by decide)]; rfl
  refine ⟨_, rfl, _, _, rfl, rfl, _, rfl, ?_⟩
  refine ite2 (fun c => absurd c c3) (fun _ => ?_)
  refine ⟨_, rfl, _, _, rfl, rfl, ⟨by decide, by decide⟩, .inl ⟨_, rfl, ?_⟩⟩
  refine ⟨_, rfl, _, rfl, _, _, rfl, rfl, ⟨by decide, by decide⟩, .inl ⟨_, rfl, ?_⟩⟩
  dsimp only
  rw [e3]
  refine ⟨p, c, _, m + 1, rfl, hp.up (by omega), by omega, Dv.of (by omega) (by omega), fun r2 H2 r20 r21 k2 hp2 => ?_⟩
  obtain ⟨fi, efi⟩ : ∃ fi : Nat, (((g / 3 : Nat) : Int) + r2 : Int) = (fi : Int) := ⟨(((g / 3 : Nat) : Int) + r2).toNat, by omega⟩
  refine ⟨_, _, rfl, rfl, ?_⟩
  dsimp only
  rw [efi]
  have hl2 := k2 l _ nl hl1
  refine ⟨_, rfl, _, rfl, _, rfl, p, c, l, fi, names, m + 2, rfl, hp2, by omega, by omega, by omega, by omega, nl, hl2, hne, hlen, fun v3 w3 H3 wa3 sg3 ly3 al3 k3 hp3 => ?_⟩
  refine ⟨_, rfl, _, rfl, _, _, rfl, rfl, _, rfl, _, _, rfl, rfl, _, rfl, p, c, l, g - 1 - fi, names, m + 2 + 4 * fi, ?_, hp3, by omega, by omega, by omega, by omega, nl, k3 l _ nl hl2, hne, hlen, fun v4 w4 H4 wa4 sg4 ly4 al4 k4 hp4 => ?_⟩
  · show [V.ref p, V.int ((g : Int) - 1 - (fi : Int)), V.ref l] = [V.ref p, V.int ((g - 1 - fi : Nat) : Int), V.ref l]
    rw [show ((g : Int) - 1 - (fi : Int)) = ((g - 1 - fi : Nat) : Int) by omega]
  refine ⟨(by show 3 ≤ sizeLine; decide), fun a ha => ?_⟩
  refine q _ (.to w3 w4) _ (.to upd_same ((WA.keep wa3 hp3 k4).same (same_new ha)) (wa4.same (same_new ha))) (by show w3.sg + w4.sg + 1 = g; omega) (ly3.gr ly4 (by omega) (by omega) (by omega) (by omega) (by omega)) (by show (w3.all _ && w4.all _) = true; rw [al3, al4]; rfl) ((((k1.trans k2).trans k3).trans k4).trans (Keep.new ha)) ((hp4.same (same_new ha)).up (by omega))
end
end TF07
namespace TF07
open PySem PySem.Spec L2 TG
open PyProof.Rows hiding St
/-! ### a writing in lists -/
abbrev sListed : Stmt := top 43
theorem scListed : FnScope ["value", "part"] ["value"] (defScope sListed) := ⟨rfl, rfl, rfl, by decide +kernel, rfl, by decide +kernel, by decide +kernel⟩
def spListed (n : Nat) : Sp := fun vs H Q _ => ∃ (v : V) (w : Wr), vs = [v] ∧ WA H v w ∧ w.ly ≤ n ∧
  ∀ (v' : V) (H' : Hp), Same H H' → (∀ p o, H p = some o → LA p H' v' w) → Q v' H'
/-- what the list of the parts holds -/
def LAs (p : Addr) (H : Hp) (xs : List V) (ws : List Wr) : Prop := Paired (LA p H) xs ws
theorem tyx_wa {K : PySem.W.Frag} {H : Hp} {v : V} {w : Wr} (h : WA H v w) : (∃ z, v = .str z ∧ w = .nm z ∧ TyX K H v (.type "str")) ∨ ∃ a xs, v = .ref a ∧ H a = some (.tup xs) ∧ TyX K H v (.type "tuple") ∧
    ∃ ws : List Wr, Paired (WA H) xs ws ∧ xs.length = 3 ∧ (∀ u ∈ ws, u.ly + 1 ≤ w.ly) ∧ ∀ (p a' : Addr) (H' : Hp) (ys : List V), a' ≠ p → H' a' = some (.lst ys) → Paired (LA p H') ys ws → LA p H' (.ref a') w := by
  cases h with
  | nm z => exact .inl ⟨z, rfl, rfl, .base (.str z)⟩
  | @of a x v b e hb =>
    refine .inr ⟨a, _, rfl, e, .base (.tup e), [.nm "of", .nm x, b], .cons (.nm _) (.cons (.nm _) (.cons hb .nil)), rfl, fun y hy => ?_, fun p a' H' ys n e' r => ?_⟩
    · have l := b.ly_pos
      rcases List.mem_cons.mp hy with h | hy
      · rw [h]; show 1 + 1 ≤ b.ly + 1; omega
      rcases List.mem_cons.mp hy with h | hy
      · rw [h]; show 1 + 1 ≤ b.ly + 1; omega
      rw [List.mem_singleton.mp hy]
      exact Nat.le_refl _
    · match ys, r with
      | [y1, y2, y3], .cons r1 (.cons r2 (.cons r3 .nil)) =>
        cases r1
        cases r2
        exact .of n e' r3
  | @to a u v b c e hb hc =>
    refine .inr ⟨a, _, rfl, e, .base (.tup e), [.nm "to", b, c], .cons (.nm _) (.cons hb (.cons hc .nil)), rfl, fun y hy => ?_, fun p a' H' ys n e' r => ?_⟩
    · have l := b.ly_pos
      rcases List.mem_cons.mp hy with h | hy
      · rw [h]; show 1 + 1 ≤ max b.ly c.ly + 1; omega
      rcases List.mem_cons.mp hy with h | hy
      · rw [h]; show b.ly + 1 ≤ max b.ly c.ly + 1; omega
      rw [List.mem_singleton.mp hy]
      show c.ly + 1 ≤ max b.ly c.ly + 1; omega
    · match ys, r with
      | [y1, y2, y3], .cons r1 (.cons r2 (.cons r3 .nil)) =>
        cases r1
        exact .to n e' r2 r3
theorem paired_len {α β : Type} {R : α → β → Prop} : ∀ {xs : List α} {ys : List β}, Paired R xs ys → xs.length = ys.length
  | _, _, .nil => rfl
  | _, _, .cons _ t => congrArg (· + 1) (paired_len t)
theorem paired_get {α β : Type} {R : α → β → Prop} : ∀ {xs : List α} {ys : List β} {i : Nat} {x : α}, Paired R xs ys → xs[i]? = some x → ∃ y, ys[i]? = some y ∧ R x y
  | _, _, 0, _, .cons r _, e => by cases e; exact ⟨_, rfl, r⟩
  | _, _, i + 1, x, .cons _ t, e => paired_get (i := i) t e
theorem paired_snoc {α β : Type} {R : α → β → Prop} {x : α} {y : β} (r : R x y) : ∀ {xs : List α} {ys : List β}, Paired R xs ys → Paired R (xs ++ [x]) (ys ++ [y])
  | _, _, .nil => .cons r .nil
  | _, _, .cons a t => .cons a (paired_snoc r t)
theorem paired_imp {α β : Type} {R S : α → β → Prop} (h : ∀ x y, R x y → S x y) : ∀ {xs : List α} {ys : List β}, Paired R xs ys → Paired S xs ys
  | _, _, .nil => .nil
  | _, _, .cons a t => .cons (h _ _ a) (paired_imp h t)
theorem LA.upd2 {p D : Addr} {H : Hp} {o : HO} {v : V} {w : Wr} (h : LA p H v w) : LA D H v w → LA p (L2.upd H D o) v w := by
  induction h with
  | nm z => intro _; exact .nm z
  | of n e _ ih =>
    intro h2
    cases h2 with
    | of n2 e2 h3 =>
      rw [e] at e2
      cases e2
      exact .of n (by rw [upd_ne n2]; exact e) (ih h3)
  | to n e _ _ i1 i2 =>
    intro h2
    cases h2 with
    | to n2 e2 h3 h4 =>
      rw [e] at e2
      cases e2
      exact .to n (by rw [upd_ne n2]; exact e) (i1 h3) (i2 h4)
theorem paired_and {α β : Type} {R S T : α → β → Prop} (h : ∀ x y, R x y → S x y → T x y) : ∀ {xs : List α} {ys : List β}, Paired R xs ys → Paired S xs ys → Paired T xs ys
  | _, _, .nil, .nil => .nil
  | _, _, .cons a t, .cons b u => .cons (h _ _ a b) (paired_and h t u)
section
variable {P : Program} {w : World} {K : PySem.W.Frag} {mg : Str → Option Value} {base : Heap} {f : Addr} {fd : FuncData}
theorem ok_listed (F : Fun K "_law_listed" "_law_listed" sListed f fd) (T : Bn mg) (D__law_listed : Df K mg "_law_listed" sListed f fd ["value"]) : ∀ n : Nat, FnG P w K mg base CX0 (n + 1) f fd ["value"] (spListed n) := by
  intro n
  induction n with
  | zero =>
    refine fun_okG F scListed (fun vs H Q E h => ?_) (fun cdv A outer s H vs Q E hr h => ?_)
    · obtain ⟨v, w, rfl, _⟩ := h
      rfl
    obtain ⟨v, w, rfl, _, h1, _⟩ := h
    have := w.ly_pos
    omega
  | succ n G__law_listed =>
  refine fun_okG F scListed (fun vs H Q E h => ?_) (fun cdv A outer s H vs Q E hr h => ?_)
  · obtain ⟨v, w, rfl, _⟩ := h
    rfl
  obtain ⟨v, w, rfl, hw, hl, q⟩ := h
  refine ⟨_, (pss_one (ps_ret (pe_ifExp (pt_val (pe_callB call_isi (by rfl) T.b_isinstance (by decide +kernel) (pa_cons (pv 0) (pa_cons (pe_bltn (v := .ty "str") (u := .type "str") (by rfl) T.b_str (by decide +kernel) rfl) pa_nil)))) (pv 0) (pe_lc (own := [("part", 1)]) (g := (gName 1)) (by rfl) scListed.nd (pi_tup (pv 0)) (blkOk_by (own := [("part", 1)]) (N := ["value", "part"]) (sc := defScope sListed) (by decide +kernel)) (fun _ _ _ _ _ => (pg_name (i := 1) scListed.nd rfl (.inl rfl))) (fun _ _ _ _ _ => pts_nil) (fun _ _ _ _ _ => (pe_cg D__law_listed G__law_listed hr (by omega) (pa_cons (pv 1) pa_nil))))))), ?_⟩
  rcases tyx_wa (K := K) hw with ⟨z, rfl, rfl, ty⟩ | ⟨a, xs, rfl, ha, ty, ws, pw, l3, lys, mk⟩
  · refine ⟨_, rfl, _, _, _, _, true, rfl, .ty "str", ty, kit_ty rfl, _, rfl, iteT ?_⟩
    exact ⟨_, rfl, q _ H (fun _ _ e => e) fun p o _ => .nm z⟩
  refine ⟨_, rfl, _, _, _, _, false, rfl, .ty "str", ty, kit_ty rfl, _, rfl, iteF ?_⟩
  refine ⟨_, rfl, a, rfl, ⟨_, SqT.of ha⟩, fun D hD => ?_⟩
  refine lc_tup (K := K) (a := a) (xs := xs) (fun i H2 => Same H H2 ∧ ∃ ys : List V, H2 D = some (.lst ys) ∧ ∀ p, (∃ o, H p = some o) ∨ p = D → Paired (LA p H2) ys (ws.take i)) ?_ ?_ ?_ ?_
  · exact ⟨same_new hD, [], upd_same, fun p _ => .nil⟩
  · rintro i H2 _ ⟨s2, _⟩
    exact SqT.of (s2 _ _ ha)
  · rintro i x H2 hx ⟨s2, ys, h3, hp⟩
    obtain ⟨u, hu, pu⟩ := paired_get pw hx
    have lu := lys u (List.mem_of_getElem? hu)
    refine ⟨rfl, _, rfl, x, u, rfl, pu.same s2, by omega, fun v' H3 s3 la => ⟨ys, s3 _ _ h3, ?_, ?_⟩⟩
    · have l3' := paired_len (hp D (.inr rfl))
      have l4 : (ws.take i).length ≤ i := List.length_take_le _ _
      have l5 := (List.getElem?_eq_some_iff.mp hx).1
      exact small1000 (by omega)
    · have all3 : ∀ p, (∃ o, H p = some o) ∨ p = D → Paired (LA p H3) (ys ++ [v']) (ws.take (i + 1)) := fun p hh => by
        rw [take_snoc hu]
        refine paired_snoc ?_ (paired_imp (fun y w' z => z.mono fun b o _ e => s3 _ _ e) (hp p hh))
        rcases hh with ⟨o, e⟩ | rfl
        · exact la p o (s2 _ _ e)
        · exact la _ _ h3
      refine ⟨fun b o e => ?_, ys ++ [v'], upd_same, fun p hh => ?_⟩
      · rw [upd_ne (ne_of_none e hD)]
        exact s3 _ _ (s2 _ _ e)
      · exact paired_and (fun y w' h1 h2 => LA.upd2 h1 h2) (all3 p hh) (all3 D (.inr rfl))
  · rintro H2 ⟨s2, ys, h3, hp⟩
    refine q _ H2 s2 fun p o e => mk p D H2 ys (Ne.symm (ne_of_none e hD)) h3 ?_
    have z := hp p (.inl ⟨o, e⟩)
    rwa [List.take_of_length_le (by rw [← paired_len pw]; exact Nat.le_refl _)] at z
end
end TF07
namespace TF07
open PySem PySem.Spec L2 TG TA
open PyProof.Rows hiding St
/-! ### the law's own walk for free names -/
abbrev sScan : Stmt := top 44
theorem scScan : FnScope ["writing", "left", "found", "part", "around"] ["writing"] (defScope sScan) := ⟨rfl, rfl, rfl, by decide +kernel, rfl, by decide +kernel, by decide +kernel⟩
def spScan : Sp := fun vs H Q _ => ∃ (v : V) (w : Wr), vs = [v] ∧ WA H v w ∧ w.sg ≤ 2000 ∧
  ∀ (l : Addr) (H' : Hp), Same H H' → H l = none → H' l = some (.lst (w.fr.map V.str)) → Q (.ref l) H'
/-- what waits: a pair at t of a part and the names around it -/
structure Ent where
  t : Addr
  v : V
  w : Wr
  r : Addr
  ns : List Str
def goS : List Ent → List Str → List Str
  | [], f => f
  | e :: s, f => goS s (e.w.go e.ns f)
def sgS (s : List Ent) : Nat := (s.map fun e => e.w.sg).sum
def nsS (w : Wr) (s : List Ent) : Prop := ∀ e ∈ s, e.ns.length + e.w.sg ≤ w.sg
/-- it stands so -/
structure EntOk (H H2 : Hp) (L F : Addr) (e : Ent) : Prop where
  ht : H2 e.t = some (.tup [e.v, .ref e.r])
  hw : WA H e.v e.w
  hr : H2 e.r = some (.lst (e.ns.map V.str))
  nL : e.r ≠ L
  nF : e.r ≠ F
theorem EntOk.keep {H H2 H3 : Hp} {L F : Addr} {e : Ent} (o : EntOk H H2 L F e) (hL : ∃ xs, H2 L = some (.lst xs)) (hF : ∃ xs, H2 F = some (.lst xs)) (k : ∀ b u, b ≠ L → b ≠ F → H2 b = some u → H3 b = some u) : EntOk H H3 L F e := by
  obtain ⟨xs, hL⟩ := hL
  obtain ⟨ys, hF⟩ := hF
  refine ⟨k _ _ (fun z => ?_) (fun z => ?_) o.ht, o.hw, k _ _ o.nL o.nF o.hr, o.nL, o.nF⟩
  · have h := o.ht
    rw [z, hL] at h
    cases h
  · have h := o.ht
    rw [z, hF] at h
    cases h
theorem sgS_len : ∀ s : List Ent, s.length ≤ sgS s
  | [] => Nat.le_refl _
  | e :: s => by
    have h1 := sgS_len s
    have h2 := e.w.sg_pos
    show s.length + 1 ≤ e.w.sg + sgS s
    omega
theorem last_snoc (l : List V) (x : V) : (l ++ [x])[(l ++ [x]).length - 1]? = some x := by simp
theorem inV_strs (z : Str) (l : List Str) : inV (.str z) (l.map V.str) = decide (z ∈ l) := by
  unfold inV
  rw [Bool.eq_iff_iff, List.any_eq_true, decide_eq_true_eq]
  constructor
  · rintro ⟨y, hy, e⟩
    obtain ⟨x, hx, rfl⟩ := List.mem_map.mp hy
    have h : x = z := by simpa [eqV] using e
    exact h ▸ hx
  · exact fun h => ⟨.str z, List.mem_map.mpr ⟨z, h, rfl⟩, by simp [eqV]⟩
theorem flat_strs (l : List Str) : (l.map V.str).all flatV = true := List.all_eq_true.mpr fun y hy => by
  obtain ⟨x, _, rfl⟩ := List.mem_map.mp hy
  rfl
section
variable {P : Program} {w : World} {K : PySem.W.Frag} {mg : Str → Option Value} {base : Heap} {f : Addr} {fd : FuncData}
theorem ok_scan (F : Fun K "_law_scanned" "_law_scanned" sScan f fd) (T : Bn mg) : FnG P w K mg base CX0 1 f fd ["writing"] spScan := by
  refine fun_okG F scScan (fun vs H Q E h => ?_) (fun cdv A outer s H vs Q E hr h => ?_)
  · obtain ⟨v, w, rfl, _⟩ := h
    rfl
  obtain ⟨v, w, rfl, hw, hsg, q⟩ := h
  refine ⟨_, (pss_cons (ps_par (i := 1) (j := 2) (by rfl) scScan.nd rfl rfl (by decide) rfl rfl (pa_cons (pe_lst (pa_cons (pe_tup (pa_cons (pv 0) (pa_cons (pe_lst pa_nil) pa_nil))) pa_nil)) (pa_cons (pe_lst pa_nil) pa_nil)) (by rfl))
      (pss_cons (ps_while PassesOwn.never (pt_cmpR (op_neL hr.units0) (pv 1) (pe_lst pa_nil) (nomark _))
        (pss_cons (ps_asg (pe_bm0 PySem.F.plainAttrs_list PySem.F.slot_list_pop PySem.F.type_list_pop mt_pop (pv 1)) (pg_tup (by rfl) (pgs_cons (pg_name (i := 3) scScan.nd rfl (.inl rfl)) (pgs_cons (pg_name (i := 4) scScan.nd rfl (.inl rfl)) pgs_nil))))
        (pss_one (ps_if (pt_val (pe_callB call_isi (by rfl) T.b_isinstance (by decide +kernel) (pa_cons (pv 3) (pa_cons (pe_bltn (v := .ty "str") (u := .type "str") (by rfl) T.b_str (by decide +kernel) rfl) pa_nil)))) (pss_one (ps_if (pt_cmpR op_notIn_seq (pv 3) (pe_op op_cat (pv 4) (pv 2)) (by rfl)) (pss_one (ps_expr (pe_bm PySem.F.plainAttrs_list PySem.F.slot_list_append PySem.F.type_list_append mt_append (pv 2) (pa_cons (pv 3) pa_nil)))) pss_nil)) (pss_one (ps_if (pt_cmpR op_eq (pe_ix ix_tup (pv 3) pe_int (fun _ _ => rfl)) pe_str (nomark _)) (pss_one (ps_expr (pe_bm PySem.F.plainAttrs_list PySem.F.slot_list_append PySem.F.type_list_append mt_append (pv 1) (pa_cons (pe_tup (pa_cons (pe_ix ix_tup (pv 3) pe_int (fun _ _ => rfl)) (pa_cons (pe_op op_cat (pv 4) (pe_lst (pa_cons (pe_ix ix_tup (pv 3) pe_int (fun _ _ => rfl)) pa_nil))) pa_nil))) pa_nil)))) (pss_one (ps_expr (pe_bm PySem.F.plainAttrs_list PySem.F.slot_list_extend PySem.F.type_list_extend mt_extend (pv 1) (pa_cons (pe_lst (pa_cons (pe_tup (pa_cons (pe_ix ix_tup (pv 3) pe_int (fun _ _ => rfl)) (pa_cons (pv 4) pa_nil))) (pa_cons (pe_tup (pa_cons (pe_ix ix_tup (pv 3) pe_int (fun _ _ => rfl)) (pa_cons (pv 4) pa_nil))) pa_nil))) pa_nil))))))))))
      (pss_one (ps_ret (pv 2))))), ?_⟩
  refine ⟨_, rfl, Nat.zero_le _, fun R hR => ⟨(by show 2 ≤ sizeLine; decide), fun t0 ht0 => ⟨(by show 1 ≤ sizeLine; decide), fun L hL => ⟨Nat.zero_le _, fun Fd hF => ⟨_, _, rfl, ?_⟩⟩⟩⟩⟩
  have nRt : R ≠ t0 := ne_of_none upd_same ht0
  have ntL : t0 ≠ L := ne_of_none upd_same hL
  have nLF : L ≠ Fd := ne_of_none upd_same hF
  have nRL : R ≠ L := ne_of_none (by rw [upd_ne nRt, upd_same]) hL
  have nRF : R ≠ Fd := ne_of_none (by rw [upd_ne nRL, upd_ne nRt, upd_same]) hF
  have ntF : t0 ≠ Fd := ne_of_none (by rw [upd_ne ntL, upd_same]) hF
  have s1 : Same H (L2.upd (L2.upd (L2.upd (L2.upd H R (.lst [])) t0 (.tup [v, .ref R])) L (.lst [.ref t0])) Fd (.lst [])) := (((same_new hR).trans (same_new ht0)).trans (same_new hL)).trans (same_new hF)
  have hH : ∀ b o, H b = some o → b ≠ L ∧ b ≠ Fd := fun b o e => ⟨ne_of_none (((same_new hR).trans (same_new ht0)) b o e) hL, ne_of_none ((((same_new hR).trans (same_new ht0)).trans (same_new hL)) b o e) hF⟩
  refine ⟨fun m σ H2 => ∃ (st : List Ent) (found : List Str) (v3 v4 : Option V), m = sgS st ∧ σ = [some v, some (.ref L), some (.ref Fd), v3, v4] ∧ Same H H2 ∧ H2 Fd = some (.lst (found.map V.str)) ∧ H2 L = some (.lst (st.reverse.map fun e => V.ref e.t)) ∧
    (∀ e ∈ st, EntOk H H2 L Fd e) ∧ goS st found = w.fr ∧ nsS w st ∧ found.length + sgS st ≤ w.sg, ⟨_, [⟨t0, v, w, R, []⟩], [], none, none, rfl, rfl, s1, upd_same, by rw [upd_ne nLF, upd_same]; rfl, ?_, ?_, ?_, ?_⟩, ?_⟩
  · intro e he
    rw [List.mem_singleton.mp he]
    exact ⟨by show L2.upd _ Fd _ t0 = _; rw [upd_ne ntF, upd_ne ntL, upd_same], hw, by show L2.upd _ Fd _ R = _; rw [upd_ne nRF, upd_ne nRL, upd_ne nRt, upd_same]; rfl, nRL, nRF⟩
  · exact w.go_nil
  · intro e he
    rw [List.mem_singleton.mp he]
    exact Nat.le_of_eq (Nat.zero_add _)
  · show 0 + (w.sg + 0) ≤ w.sg
    omega
  rintro m σ H2 ⟨st, found, v3, v4, rfl, rfl, s2, hf, hl, ok, hgo, hns, hlen⟩
  refine ⟨_, rfl, Nat.zero_le _, fun l hl0 => ?_⟩
  have nLl : L ≠ l := ne_of_none hl hl0
  have nFl : Fd ≠ l := ne_of_none hf hl0
  refine ⟨L, l, _, _, rfl, rfl, SqL.of (by rw [upd_ne nLl]; exact hl), SqL.of upd_same, ?_⟩
  have s3 : Same H (L2.upd H2 l (.lst [])) := s2.trans (same_new hl0)
  cases st with
  | nil =>
    refine .inr ⟨[], .nil, _, rfl, iteF ?_⟩
    exact ⟨_, rfl, q Fd _ s3 (by
      cases e : H Fd with
      | none => rfl
      | some o => exact absurd rfl (hH _ _ e).2) (by rw [upd_ne nFl, hf, ← hgo]; rfl)⟩
  | cons e st =>
    refine .inl ⟨by rw [List.length_map, List.length_reverse]; exact Nat.succ_ne_zero _, _, rfl, iteT ?_⟩
    refine ⟨_, fun σ' H' z => z, ?_⟩
    obtain ⟨et, ev, ew, er, ens⟩ := e
    obtain ⟨ht, hwE, hrE, nrL, nrF⟩ := ok _ List.mem_cons_self
    simp only at ht hwE hrE nrL nrF
    have ntL' : et ≠ L := fun z => by subst z; rw [hl] at ht; cases ht
    have ntF' : et ≠ Fd := fun z => by subst z; rw [hf] at ht; cases ht
    have hns1 : ens.length + ew.sg ≤ w.sg := hns _ List.mem_cons_self
    have hns2 : nsS w st := fun e' h' => hns e' (List.mem_cons_of_mem _ h')
    have ok2 : ∀ e' ∈ st, EntOk H H2 L Fd e' := fun e' h' => ok e' (List.mem_cons_of_mem _ h')
    have hlen2 : found.length + (ew.sg + sgS st) ≤ w.sg := hlen
    have eL : (List.map (fun e => V.ref e.t) (⟨et, ev, ew, er, ens⟩ :: st : List Ent).reverse) = st.reverse.map (fun e => V.ref e.t) ++ [.ref et] := by
      rw [List.reverse_cons, List.map_append]
      rfl
    rw [eL] at hl
    have hl1 : L2.upd H2 l (.lst []) L = some (.lst (st.reverse.map (fun e => V.ref e.t) ++ [.ref et])) := by rw [upd_ne nLl]; exact hl
    refine ⟨_, rfl, .inl ⟨rfl, _, SqL.of hl1⟩, L, _, .ref et, rfl, rfl, hl1, last_snoc _ _, ?_⟩
    rw [List.dropLast_concat]
    have k3 : ∀ b u, b ≠ L → H2 b = some u → L2.upd (L2.upd H2 l (.lst [])) L (.lst (st.reverse.map fun e => V.ref e.t)) b = some u := fun b u n e => by
      rw [upd_ne n]
      exact same_new hl0 b u e
    refine ⟨et, _, rfl, SqT.of (k3 _ _ ntL' ht), rfl, _, _, rfl, _, _, rfl, rfl, ?_⟩
    have hl3 : L2.upd (L2.upd H2 l (.lst [])) L (.lst (st.reverse.map fun e => V.ref e.t)) L = some (.lst (st.reverse.map fun e => V.ref e.t)) := upd_same
    generalize L2.upd (L2.upd H2 l (.lst [])) L (.lst (st.reverse.map fun e => V.ref e.t)) = H3 at k3 hl3 ⊢
    have hf3 := k3 _ _ (Ne.symm nLF) hf
    have hr3 := k3 _ _ nrL hrE
    have s4 : Same H H3 := fun b o e => k3 b o (hH b o e).1 (s2 b o e)
    cases hwE with
    | nm z =>
      refine ⟨_, rfl, _, _, _, _, true, rfl, .ty "str", .base (.str z), kit_ty rfl, _, rfl, iteT ?_⟩
      have l1 : ens.length + 1 ≤ w.sg := hns1
      have l2 : found.length + (1 + sgS st) ≤ w.sg := hlen2
      refine ⟨_, rfl, _, rfl, _, rfl, er, Fd, _, _, rfl, rfl, hr3, hf3, ?_, fun C hC => ⟨C, _, rfl, .inl (SqL.of upd_same), rfl, ?_, _, rfl, ?_⟩⟩
      · rw [List.length_map, List.length_map, sizeLine_eq]
        omega
      · rw [← List.map_append]
        exact flat_strs _
      have k5 : ∀ b u, H3 b = some u → L2.upd H3 C (.lst (ens.map V.str ++ found.map V.str)) b = some u := same_new hC
      have e5 : (if true = true then !inV (.str z) (ens.map V.str ++ found.map V.str) else inV (.str z) (ens.map V.str ++ found.map V.str)) = !decide (z ∈ ens ++ found) := by
        rw [if_pos rfl, ← List.map_append, inV_strs]
      rw [e5]
      have gz : (Wr.nm z).go ens found = if z ∈ ens ++ found then found else found ++ [z] := rfl
      by_cases hz : z ∈ ens ++ found
      · rw [decide_eq_true hz]
        refine iteF ?_
        refine ⟨sgS st, ?_, st, found, _, _, rfl, rfl, fun b o e => k5 _ _ (s4 b o e), k5 _ _ hf3, k5 _ _ hl3, fun e' h' => (ok2 e' h').keep ⟨_, hl⟩ ⟨_, hf⟩ fun b u n1 n2 e => k5 _ _ (k3 b u n1 e), ?_, hns2, by omega⟩
        · show sgS st < 1 + sgS st
          omega
        · have h := hgo
          rw [← h]
          show goS st found = goS st ((Wr.nm z).go ens found)
          rw [gz, if_pos hz]
      · rw [decide_eq_false hz]
        refine iteT ?_
        have nFC : Fd ≠ C := ne_of_none hf3 hC
        refine ⟨_, rfl, .inl ⟨rfl, _, SqL.of (k5 _ _ hf3)⟩, _, rfl, Fd, _, _, rfl, rfl, k5 _ _ hf3, ?_, ?_⟩
        · rw [List.length_map, sizeLine_eq]
          omega
        refine ⟨sgS st, ?_, st, found ++ [z], _, _, rfl, rfl, fun b o e => by rw [upd_ne (hH b o e).2]; exact k5 _ _ (s4 b o e), by rw [upd_same, List.map_append]; rfl, by rw [upd_ne nLF]; exact k5 _ _ hl3, fun e' h' => (ok2 e' h').keep ⟨_, hl⟩ ⟨_, hf⟩ fun b u n1 n2 e => by rw [upd_ne n2]; exact k5 _ _ (k3 b u n1 e), ?_, hns2, by rw [List.length_append, List.length_singleton]; omega⟩
        · show sgS st < 1 + sgS st
          omega
        · have h := hgo
          rw [← h]
          show goS st (found ++ [z]) = goS st ((Wr.nm z).go ens found)
          rw [gz, if_neg hz]
    | @of a x vb b ha hb =>
      have l1 : ens.length + (b.sg + 1) ≤ w.sg := hns1
      have l2 : found.length + (b.sg + 1 + sgS st) ≤ w.sg := hlen2
      have ha3 := s4 _ _ ha
      refine ⟨_, rfl, _, _, _, _, false, rfl, .ty "str", .base (.tup ha3), kit_ty rfl, _, rfl, iteF ?_⟩
      refine ⟨_, rfl, a, _, _, _, rfl, rfl, SqT.of ha3, rfl, rfl, _, rfl, ?_⟩
      refine ite2 (fun _ => ?_) (fun z => absurd (decide_eq_true rfl) z)
      refine ⟨_, rfl, .inl ⟨rfl, _, SqL.of hl3⟩, _, rfl, a, _, _, _, rfl, rfl, SqT.of ha3, rfl, _, rfl, _, rfl, a, _, _, _, rfl, rfl, SqT.of ha3, rfl, (by show 1 ≤ sizeLine; decide), fun N hN => ?_⟩
      have nrN : er ≠ N := ne_of_none hr3 hN
      refine ⟨er, N, _, _, rfl, rfl, same_new hN _ _ hr3, upd_same, ?_, fun C hC => ⟨(by show 2 ≤ sizeLine; decide), fun U hU => ?_⟩⟩
      · rw [List.length_map, sizeLine_eq]
        show ens.length + 1 ≤ _
        omega
      have k5 : ∀ b u, H3 b = some u → L2.upd (L2.upd (L2.upd H3 N (.lst [.str x])) C (.lst (ens.map V.str ++ [.str x]))) U (.tup [vb, .ref C]) b = some u := fun b u e => same_new hU b u (same_new hC b u (same_new hN b u e))
      have nLU : L ≠ U := ne_of_none (same_new hC _ _ (same_new hN _ _ hl3)) hU
      have nCU : C ≠ U := ne_of_none upd_same hU
      have nLC : L ≠ C := ne_of_none (same_new hN _ _ hl3) hC
      have nFC : Fd ≠ C := ne_of_none (same_new hN _ _ hf3) hC
      have hU5 : L2.upd (L2.upd (L2.upd H3 N (.lst [.str x])) C (.lst (ens.map V.str ++ [.str x]))) U (.tup [vb, .ref C]) U = some (.tup [vb, .ref C]) := upd_same
      have hC5 : L2.upd (L2.upd (L2.upd H3 N (.lst [.str x])) C (.lst (ens.map V.str ++ [.str x]))) U (.tup [vb, .ref C]) C = some (.lst (ens.map V.str ++ [.str x])) := by rw [upd_ne nCU, upd_same]
      generalize L2.upd (L2.upd (L2.upd H3 N (.lst [.str x])) C (.lst (ens.map V.str ++ [.str x]))) U (.tup [vb, .ref C]) = H5 at k5 hU5 hC5 ⊢
      refine ⟨L, _, _, rfl, rfl, k5 _ _ hl3, ?_, ?_⟩
      · rw [List.length_map, List.length_reverse, sizeLine_eq]
        have h := sgS_len st
        omega
      have k6 : ∀ b u, b ≠ L → b ≠ Fd → H2 b = some u → ∀ ys, L2.upd H5 L ys b = some u := fun b u n1 n2 e ys => by rw [upd_ne n1]; exact k5 _ _ (k3 b u n1 e)
      refine ⟨sgS (⟨U, vb, b, C, ens ++ [x]⟩ :: st), ?_, ⟨U, vb, b, C, ens ++ [x]⟩ :: st, found, _, _, rfl, rfl, fun b o e => k6 _ _ (hH b o e).1 (hH b o e).2 (s2 b o e) _, by rw [upd_ne (Ne.symm nLF)]; exact k5 _ _ hf3, ?_, ?_, hgo, ?_, ?_⟩
      · show b.sg + sgS st < b.sg + 1 + sgS st
        omega
      · rw [upd_same, List.reverse_cons, List.map_append]
        rfl
      · intro e' h'
        rcases List.mem_cons.mp h' with h' | h'
        · rw [h']
          exact ⟨by show L2.upd H5 L _ U = _; rw [upd_ne (Ne.symm nLU)]; exact hU5, hb, by show L2.upd H5 L _ C = some (.lst ((ens ++ [x]).map V.str)); rw [upd_ne (Ne.symm nLC), hC5, List.map_append]; rfl, Ne.symm nLC, Ne.symm nFC⟩
        · exact (ok2 e' h').keep ⟨_, hl⟩ ⟨_, hf⟩ fun b u n1 n2 e => k6 b u n1 n2 e _
      · intro e' h'
        rcases List.mem_cons.mp h' with h' | h'
        · rw [h']
          show (ens ++ [x]).length + b.sg ≤ w.sg
          rw [List.length_append, List.length_singleton]
          omega
        · exact hns2 e' h'
      · show found.length + (b.sg + sgS st) ≤ w.sg
        omega
    | @to a va vb b c ha hb hc =>
      have l1 : ens.length + (b.sg + c.sg + 1) ≤ w.sg := hns1
      have l2 : found.length + (b.sg + c.sg + 1 + sgS st) ≤ w.sg := hlen2
      have ha3 := s4 _ _ ha
      refine ⟨_, rfl, _, _, _, _, false, rfl, .ty "str", .base (.tup ha3), kit_ty rfl, _, rfl, iteF ?_⟩
      refine ⟨_, rfl, a, _, _, _, rfl, rfl, SqT.of ha3, rfl, rfl, _, rfl, ?_⟩
      refine ite2 (fun z => absurd z (by decide +kernel)) (fun _ => ?_)
      refine ⟨_, rfl, .inl ⟨rfl, _, SqL.of hl3⟩, _, rfl, a, _, _, _, rfl, rfl, SqT.of ha3, rfl, _, rfl, (by show 2 ≤ sizeLine; decide), fun U1 h1 => ?_⟩
      refine ⟨_, rfl, a, _, _, _, rfl, rfl, SqT.of (same_new h1 _ _ ha3), rfl, _, rfl, (by show 2 ≤ sizeLine; decide), fun U2 h2 => ⟨(by show 2 ≤ sizeLine; decide), fun N hN => ?_⟩⟩
      have n12 : U1 ≠ U2 := ne_of_none upd_same h2
      have n1N : U1 ≠ N := ne_of_none (by rw [upd_ne n12, upd_same]) hN
      have n2N : U2 ≠ N := ne_of_none upd_same hN
      have nL1 : L ≠ U1 := ne_of_none hl3 h1
      have nL2 : L ≠ U2 := ne_of_none (same_new h1 _ _ hl3) h2
      have k5 : ∀ b u, H3 b = some u → L2.upd (L2.upd (L2.upd H3 U1 (.tup [vb, .ref er])) U2 (.tup [va, .ref er])) N (.lst [.ref U1, .ref U2]) b = some u := fun b u e => same_new hN b u (same_new h2 b u (same_new h1 b u e))
      have hU1 : L2.upd (L2.upd (L2.upd H3 U1 (.tup [vb, .ref er])) U2 (.tup [va, .ref er])) N (.lst [.ref U1, .ref U2]) U1 = some (.tup [vb, .ref er]) := by rw [upd_ne n1N, upd_ne n12, upd_same]
      have hU2 : L2.upd (L2.upd (L2.upd H3 U1 (.tup [vb, .ref er])) U2 (.tup [va, .ref er])) N (.lst [.ref U1, .ref U2]) U2 = some (.tup [va, .ref er]) := by rw [upd_ne n2N, upd_same]
      have hN5 : L2.upd (L2.upd (L2.upd H3 U1 (.tup [vb, .ref er])) U2 (.tup [va, .ref er])) N (.lst [.ref U1, .ref U2]) N = some (.lst [.ref U1, .ref U2]) := upd_same
      generalize L2.upd (L2.upd (L2.upd H3 U1 (.tup [vb, .ref er])) U2 (.tup [va, .ref er])) N (.lst [.ref U1, .ref U2]) = H5 at k5 hU1 hU2 hN5 ⊢
      refine ⟨L, N, _, _, rfl, rfl, k5 _ _ hl3, hN5, ?_, ?_⟩
      · rw [List.length_map, List.length_reverse, sizeLine_eq]
        have h := sgS_len st
        show st.length + 2 ≤ _
        omega
      have k6 : ∀ b u, b ≠ L → b ≠ Fd → H2 b = some u → ∀ ys, L2.upd H5 L ys b = some u := fun b u n1 n2 e ys => by rw [upd_ne n1]; exact k5 _ _ (k3 b u n1 e)
      refine ⟨sgS (⟨U2, va, b, er, ens⟩ :: ⟨U1, vb, c, er, ens⟩ :: st), ?_, ⟨U2, va, b, er, ens⟩ :: ⟨U1, vb, c, er, ens⟩ :: st, found, _, _, rfl, rfl, fun b o e => k6 _ _ (hH b o e).1 (hH b o e).2 (s2 b o e) _, by rw [upd_ne (Ne.symm nLF)]; exact k5 _ _ hf3, ?_, ?_, hgo, ?_, ?_⟩
      · show b.sg + (c.sg + sgS st) < b.sg + c.sg + 1 + sgS st
        omega
      · rw [upd_same, List.reverse_cons, List.reverse_cons, List.map_append, List.map_append, List.append_assoc]
        rfl
      · intro e' h'
        have hr6 : ∀ ys, L2.upd H5 L ys er = some (.lst (ens.map V.str)) := fun ys => by rw [upd_ne nrL]; exact k5 _ _ hr3
        rcases List.mem_cons.mp h' with h' | h'
        · rw [h']
          exact ⟨by show L2.upd H5 L _ U2 = _; rw [upd_ne (Ne.symm nL2)]; exact hU2, hb, hr6 _, nrL, nrF⟩
        rcases List.mem_cons.mp h' with h' | h'
        · rw [h']
          exact ⟨by show L2.upd H5 L _ U1 = _; rw [upd_ne (Ne.symm nL1)]; exact hU1, hc, hr6 _, nrL, nrF⟩
        · exact (ok2 e' h').keep ⟨_, hl⟩ ⟨_, hf⟩ fun b u n1 n2 e => k6 b u n1 n2 e _
      · intro e' h'
        rcases List.mem_cons.mp h' with h' | h'
        · rw [h']
          show ens.length + b.sg ≤ w.sg
          omega
        rcases List.mem_cons.mp h' with h' | h'
        · rw [h']
          show ens.length + c.sg ≤ w.sg
          omega
        · exact hns2 e' h'
      · show found.length + (b.sg + (c.sg + sgS st)) ≤ w.sg
        omega
end
end TF07
/-! writings with their bound names counted outwards; what is put in them -/
namespace TG
open PySem PySem.Spec L2
open PyProof.Rows hiding St
inductive Bt where
  | bd (n : Nat)
  | fr (z : Str)
  | of (b : Bt)
  | to (a b : Bt)
deriving DecidableEq
namespace Bt
/-- the name is free in it -/
def uses (z : Str) : Bt → Bool
  | bd _ => false
  | fr y => decide (y = z)
  | of b => b.uses z
  | to a b => a.uses z || b.uses z
/-- something put for a free name -/
def sub : Bt → Str → Bt → Bt
  | bd n, _, _ => bd n
  | fr y, z, t => if y = z then t else fr y
  | of b, z, t => of (b.sub z t)
  | to a b, z, t => to (a.sub z t) (b.sub z t)
/-- a free name bound, k of the others being around -/
def bind (z : Str) : Nat → Bt → Bt
  | _, bd n => bd n
  | k, fr y => if y = z then bd k else fr y
  | k, of b => of (b.bind z (k + 1))
  | k, to a b => to (a.bind z k) (b.bind z k)
def ly : Bt → Nat
  | bd _ => 1
  | fr _ => 1
  | of b => b.ly + 1
  | to a b => max a.ly b.ly + 1
def all (p : Str → Bool) : Bt → Bool
  | bd _ => true
  | fr z => p z
  | of b => b.all p
  | to a b => a.all p && b.all p
theorem sub_none {z : Str} {t : Bt} : ∀ {b : Bt}, b.uses z = false → b.sub z t = b
  | bd _, _ => rfl
  | fr y, h => if_neg (of_decide_eq_false h)
  | of b, h => congrArg of (sub_none (b := b) h)
  | to a b, h => by
    obtain ⟨h1, h2⟩ := Bool.or_eq_false_iff.mp h
    show to _ _ = _
    rw [sub_none h1, sub_none h2]
theorem sub_self (z : Str) : ∀ b : Bt, b.sub z (fr z) = b
  | bd _ => rfl
  | fr y => by
    show (if y = z then fr z else fr y) = fr y
    by_cases h : y = z
    · rw [if_pos h, h]
    · rw [if_neg h]
  | of b => congrArg of (sub_self z b)
  | to a b => by
    show to _ _ = _
    rw [sub_self z a, sub_self z b]
theorem bind_none {z : Str} : ∀ {b : Bt} (k : Nat), b.uses z = false → b.bind z k = b
  | bd _, _, _ => rfl
  | fr y, _, h => if_neg (of_decide_eq_false h)
  | of b, k, h => congrArg of (bind_none (b := b) (k + 1) h)
  | to a b, k, h => by
    obtain ⟨h1, h2⟩ := Bool.or_eq_false_iff.mp h
    show to _ _ = _
    rw [bind_none k h1, bind_none k h2]
theorem uses_bind (z : Str) : ∀ (b : Bt) (k : Nat), (b.bind z k).uses z = false
  | bd _, _ => rfl
  | fr y, k => by
    show (if y = z then bd k else fr y).uses z = false
    by_cases h : y = z
    · rw [if_pos h]
      rfl
    · rw [if_neg h]
      exact decide_eq_false h
  | of b, k => uses_bind z b (k + 1)
  | to a b, k => by
    show ((a.bind z k).uses z || (b.bind z k).uses z) = false
    rw [uses_bind z a, uses_bind z b]
    rfl
theorem uses_bind_ne {z y : Str} (n : y ≠ z) : ∀ (b : Bt) (k : Nat), (b.bind z k).uses y = b.uses y
  | bd _, _ => rfl
  | fr x, k => by
    show (if x = z then bd k else fr x).uses y = decide (x = y)
    by_cases h : x = z
    · rw [if_pos h, decide_eq_false fun e => n (e.symm.trans h)]
      rfl
    · rw [if_neg h]
      rfl
  | of b, k => uses_bind_ne n b (k + 1)
  | to a b, k => by
    show ((a.bind z k).uses y || (b.bind z k).uses y) = (a.uses y || b.uses y)
    rw [uses_bind_ne n a, uses_bind_ne n b]
theorem uses_sub {z y : Str} {t : Bt} : ∀ b : Bt, (b.sub z t).uses y = ((b.uses y && decide (y ≠ z)) || (b.uses z && t.uses y))
  | bd _ => rfl
  | fr x => by
    show (if x = z then t else fr x).uses y = ((decide (x = y) && decide (y ≠ z)) || (decide (x = z) && t.uses y))
    by_cases h : x = z
    · subst h
      rw [if_pos rfl, decide_eq_true rfl, Bool.true_and]
      by_cases e : x = y
      · subst e
        simp
      · rw [decide_eq_false e]
        rfl
    · rw [if_neg h, decide_eq_false h, Bool.false_and, Bool.or_false]
      show decide (x = y) = _
      by_cases e : x = y
      · subst e
        simp [h]
      · rw [decide_eq_false e]
        rfl
  | of b => uses_sub b
  | to a b => by
    show ((a.sub z t).uses y || (b.sub z t).uses y) = (((a.uses y || b.uses y) && decide (y ≠ z)) || ((a.uses z || b.uses z) && t.uses y))
    rw [uses_sub a, uses_sub b]
    cases a.uses y <;> cases b.uses y <;> cases a.uses z <;> cases b.uses z <;> cases t.uses y <;> cases decide (y ≠ z) <;> rfl
/-- put in one behind the other -/
theorem sub_sub {x y : Str} {a b : Bt} (n : x ≠ y) (h : b.uses x = false) : ∀ m : Bt, (m.sub x a).sub y b = (m.sub y b).sub x (a.sub y b)
  | bd _ => rfl
  | fr z => by
    show (if z = x then a else fr z).sub y b = (if z = y then b else fr z).sub x (a.sub y b)
    by_cases h1 : z = x
    · have h2 : ¬ z = y := fun e => n (h1.symm.trans e)
      rw [if_pos h1, if_neg h2]
      show _ = if z = x then _ else _
      rw [if_pos h1]
    · rw [if_neg h1]
      show (if z = y then b else fr z) = _
      by_cases h2 : z = y
      · rw [if_pos h2, sub_none h]
      · rw [if_neg h2]
        show _ = if z = x then _ else fr z
        rw [if_neg h1]
  | of m => congrArg of (sub_sub n h m)
  | to p q => by
    show to _ _ = to _ _
    rw [sub_sub n h p, sub_sub n h q]
/-- what is put under a binder whose name is not in it -/
theorem bind_sub {x y : Str} {a : Bt} (n : x ≠ y) (h : a.uses y = false) : ∀ (m : Bt) (k : Nat), (m.sub x a).bind y k = (m.bind y k).sub x a
  | bd _, _ => rfl
  | fr z, k => by
    show (if z = x then a else fr z).bind y k = (if z = y then bd k else fr z).sub x a
    by_cases h1 : z = x
    · have h2 : ¬ z = y := fun e => n (h1.symm.trans e)
      rw [if_pos h1, if_neg h2, bind_none k h]
      show _ = if z = x then _ else _
      rw [if_pos h1]
    · rw [if_neg h1]
      show (if z = y then bd k else fr z) = _
      by_cases h2 : z = y
      · rw [if_pos h2]
        rfl
      · rw [if_neg h2]
        show _ = if z = x then _ else fr z
        rw [if_neg h1]
  | of m, k => congrArg of (bind_sub n h m (k + 1))
  | to p q, k => by
    show to _ _ = to _ _
    rw [bind_sub n h p, bind_sub n h q]
/-- a name exchanged for a new one, and that bound -/
theorem bind_new {y u : Str} : ∀ (m : Bt) (k : Nat), m.uses u = false → (m.sub y (fr u)).bind u k = m.bind y k
  | bd _, _, _ => rfl
  | fr z, k, h => by
    have nu : ¬ z = u := of_decide_eq_false h
    show (if z = y then fr u else fr z).bind u k = if z = y then bd k else fr z
    by_cases h1 : z = y
    · rw [if_pos h1, if_pos h1]
      exact if_pos rfl
    · rw [if_neg h1, if_neg h1]
      exact if_neg nu
  | of m, k, h => congrArg of (bind_new m (k + 1) h)
  | to p q, k, h => by
    obtain ⟨h1, h2⟩ := Bool.or_eq_false_iff.mp h
    show to _ _ = to _ _
    rw [bind_new p k h1, bind_new q k h2]
/-- a name exchanged for a new one, and something put for that -/
theorem sub_new {x u : Str} {a : Bt} : ∀ m : Bt, m.uses u = false → (m.sub x (fr u)).sub u a = m.sub x a
  | bd _, _ => rfl
  | fr z, h => by
    have nu : ¬ z = u := of_decide_eq_false h
    show (if z = x then fr u else fr z).sub u a = if z = x then a else fr z
    by_cases h1 : z = x
    · rw [if_pos h1, if_pos h1]
      exact if_pos rfl
    · rw [if_neg h1, if_neg h1]
      exact if_neg nu
  | of m, h => congrArg of (sub_new m h)
  | to p q, h => by
    obtain ⟨h1, h2⟩ := Bool.or_eq_false_iff.mp h
    show to _ _ = to _ _
    rw [sub_new p h1, sub_new q h2]
theorem ly_pos : ∀ b : Bt, 1 ≤ b.ly
  | bd _ => Nat.le_refl _
  | fr _ => Nat.le_refl _
  | of b => Nat.succ_le_succ (Nat.zero_le _)
  | to a b => Nat.succ_le_succ (Nat.zero_le _)
theorem ly_sub (z : Str) (t : Bt) : ∀ b : Bt, (b.sub z t).ly ≤ b.ly + t.ly
  | bd _ => Nat.le_add_right _ _
  | fr y => by
    show (if y = z then t else fr y).ly ≤ 1 + t.ly
    by_cases h : y = z
    · rw [if_pos h]; omega
    · rw [if_neg h]; exact Nat.le_add_right _ _
  | of b => by
    have := ly_sub z t b
    show (b.sub z t).ly + 1 ≤ b.ly + 1 + t.ly
    omega
  | to a b => by
    have h1 := ly_sub z t a
    have h2 := ly_sub z t b
    show max (a.sub z t).ly (b.sub z t).ly + 1 ≤ max a.ly b.ly + 1 + t.ly
    omega
theorem all_sub {p : Str → Bool} {z : Str} {t : Bt} (ht : t.all p = true) : ∀ {b : Bt}, b.all p = true → (b.sub z t).all p = true
  | bd _, _ => rfl
  | fr y, h => by
    show (if y = z then t else fr y).all p = true
    by_cases e : y = z
    · rw [if_pos e]; exact ht
    · rw [if_neg e]; exact h
  | of b, h => all_sub ht (b := b) h
  | to a b, h => Bool.and_eq_true_iff.mpr ⟨all_sub ht (Bool.and_eq_true_iff.mp h).1, all_sub ht (Bool.and_eq_true_iff.mp h).2⟩
end Bt
namespace Wr
/-- its bound names counted outwards, those around the nearest first -/
def cnt : Wr → List Str → Bt
  | nm z, ar => if z ∈ ar then .bd (ar.idxOf z) else .fr z
  | of x b, ar => .of (b.cnt (x :: ar))
  | to a b, ar => .to (a.cnt ar) (b.cnt ar)
theorem cnt_ly : ∀ (w : Wr) (ar : List Str), (w.cnt ar).ly = w.ly
  | nm z, ar => by
    show (if z ∈ ar then Bt.bd (ar.idxOf z) else .fr z).ly = 1
    split <;> rfl
  | of x b, ar => congrArg (· + 1) (cnt_ly b (x :: ar))
  | to a b, ar => by
    show max (a.cnt ar).ly (b.cnt ar).ly + 1 = max a.ly b.ly + 1
    rw [cnt_ly a, cnt_ly b]
theorem cnt_all {p : Str → Bool} : ∀ {w : Wr} (ar : List Str), w.all p = true → (w.cnt ar).all p = true
  | nm z, ar, h => by
    show (if z ∈ ar then Bt.bd (ar.idxOf z) else .fr z).all p = true
    split
    · rfl
    · exact h
  | of x b, ar, h => cnt_all (w := b) (x :: ar) (Bool.and_eq_true_iff.mp h).2
  | to a b, ar, h => Bool.and_eq_true_iff.mpr ⟨cnt_all ar (Bool.and_eq_true_iff.mp h).1, cnt_all ar (Bool.and_eq_true_iff.mp h).2⟩
/-- a name more, outside of all others -/
theorem cnt_snoc (y : Str) : ∀ (w : Wr) (ar : List Str), w.cnt (ar ++ [y]) = (w.cnt ar).bind y ar.length
  | nm z, ar => by
    show (if z ∈ ar ++ [y] then Bt.bd ((ar ++ [y]).idxOf z) else .fr z) = (if z ∈ ar then Bt.bd (ar.idxOf z) else .fr z).bind y ar.length
    by_cases h : z ∈ ar
    · rw [if_pos (List.mem_append_left _ h), if_pos h, List.idxOf_append, if_pos h]
      rfl
    · rw [if_neg h]
      show _ = if z = y then Bt.bd ar.length else .fr z
      by_cases e : z = y
      · subst e
        rw [if_pos rfl, if_pos (List.mem_append_right _ (List.mem_singleton_self z)), List.idxOf_append, if_neg h, List.idxOf_cons_self]
        congr 1
        omega
      · rw [if_neg e, if_neg]
        intro q
        rcases List.mem_append.mp q with q | q
        · exact h q
        · exact e (List.mem_singleton.mp q)
  | of x b, ar => congrArg Bt.of (cnt_snoc y b (x :: ar))
  | to a b, ar => by
    show Bt.to _ _ = Bt.to _ _
    rw [cnt_snoc y a, cnt_snoc y b]
theorem cnt_of (x : Str) (b : Wr) : (Wr.of x b).cnt [] = .of ((b.cnt []).bind x 0) := congrArg Bt.of (cnt_snoc x b [])
theorem uses_cnt (z : Str) : ∀ (w : Wr) (ar : List Str), (w.cnt ar).uses z = decide (z ∈ w.fr ∧ z ∉ ar)
  | nm y, ar => by
    show (if y ∈ ar then Bt.bd (ar.idxOf y) else .fr y).uses z = decide (z ∈ [y] ∧ z ∉ ar)
    by_cases h : y ∈ ar
    · rw [if_pos h]
      refine (decide_eq_false ?_).symm
      rintro ⟨h1, h2⟩
      exact h2 (List.mem_singleton.mp h1 ▸ h)
    · rw [if_neg h]
      show decide (y = z) = _
      by_cases e : y = z
      · subst e
        rw [decide_eq_true rfl, decide_eq_true ⟨List.mem_singleton_self y, h⟩]
      · rw [decide_eq_false e, decide_eq_false]
        exact fun q => e (List.mem_singleton.mp q.1).symm
  | of x b, ar => by
    show (b.cnt (x :: ar)).uses z = decide (z ∈ (b.fr.filter fun z => decide (z ≠ x)) ∧ z ∉ ar)
    rw [uses_cnt z b]
    refine decide_eq_decide.mpr ?_
    simp only [List.mem_filter, List.mem_cons, decide_eq_true_eq, not_or]
    constructor
    · rintro ⟨h1, h2, h3⟩
      exact ⟨⟨h1, h2⟩, h3⟩
    · rintro ⟨⟨h1, h2⟩, h3⟩
      exact ⟨h1, h2, h3⟩
  | to a b, ar => by
    show ((a.cnt ar).uses z || (b.cnt ar).uses z) = decide (z ∈ (a.fr ++ b.fr.filter fun z => decide (z ∉ a.fr)) ∧ z ∉ ar)
    rw [uses_cnt z a, uses_cnt z b, Bool.eq_iff_iff]
    simp only [Bool.or_eq_true, decide_eq_true_eq, List.mem_append, List.mem_filter]
    by_cases h1 : z ∈ a.fr <;> by_cases h2 : z ∈ b.fr <;> by_cases h3 : z ∈ ar <;> simp [h1, h2, h3]
/-- alike in writing -/
def alk (w v : Wr) : Bool := decide (w.cnt [] = v.cnt [])
end Wr
end TG
/-! counted writings in the heap; what put and alike promise -/
namespace TG
open PySem PySem.Spec L2
open PyProof.Rows hiding St
namespace Bt
def sg : Bt → Nat
  | bd _ => 1
  | fr _ => 1
  | of b => b.sg + 1
  | to a b => a.sg + b.sg + 1
theorem sg_pos : ∀ b : Bt, 1 ≤ b.sg
  | bd _ => Nat.le_refl _
  | fr _ => Nat.le_refl _
  | of b => Nat.succ_le_succ (Nat.zero_le _)
  | to a b => Nat.succ_le_succ (Nat.zero_le _)
theorem sg_sub (z : Str) (t : Bt) : ∀ b : Bt, (b.sub z t).sg ≤ b.sg * t.sg
  | bd _ => by
    have := t.sg_pos
    show 1 ≤ 1 * t.sg
    omega
  | fr y => by
    have := t.sg_pos
    show (if y = z then t else fr y).sg ≤ 1 * t.sg
    by_cases h : y = z
    · rw [if_pos h]; omega
    · rw [if_neg h]; show 1 ≤ 1 * t.sg; omega
  | of b => by
    have h := sg_sub z t b
    have := t.sg_pos
    show (b.sub z t).sg + 1 ≤ (b.sg + 1) * t.sg
    rw [Nat.add_mul]
    omega
  | to a b => by
    have h1 := sg_sub z t a
    have h2 := sg_sub z t b
    have := t.sg_pos
    show (a.sub z t).sg + (b.sub z t).sg + 1 ≤ (a.sg + b.sg + 1) * t.sg
    rw [Nat.add_mul, Nat.add_mul]
    omega
/-- its leaves -/
def lv : Bt → Nat
  | bd _ => 1
  | fr _ => 1
  | of b => b.lv
  | to a b => a.lv + b.lv
theorem lv_sg : ∀ b : Bt, 2 * b.lv ≤ b.sg + 1
  | bd _ => Nat.le_refl _
  | fr _ => Nat.le_refl _
  | of b => by
    have h := lv_sg b
    show 2 * b.lv ≤ b.sg + 1 + 1
    omega
  | to a b => by
    have h1 := lv_sg a
    have h2 := lv_sg b
    show 2 * (a.lv + b.lv) ≤ a.sg + b.sg + 1 + 1
    omega
theorem lv_pos : ∀ b : Bt, 1 ≤ b.lv
  | bd _ => Nat.le_refl _
  | fr _ => Nat.le_refl _
  | of b => lv_pos b
  | to a b => Nat.le_trans (lv_pos a) (Nat.le_add_right _ _)
theorem lv_sub (z : Str) (t : Bt) : ∀ b : Bt, (b.sub z t).lv ≤ b.lv * t.lv
  | bd _ => by
    have := t.lv_pos
    show 1 ≤ 1 * t.lv
    omega
  | fr y => by
    have := t.lv_pos
    show (if y = z then t else fr y).lv ≤ 1 * t.lv
    by_cases h : y = z
    · rw [if_pos h]; omega
    · rw [if_neg h]; show 1 ≤ 1 * t.lv; omega
  | of b => lv_sub z t b
  | to a b => by
    have h1 := lv_sub z t a
    have h2 := lv_sub z t b
    show (a.sub z t).lv + (b.sub z t).lv ≤ (a.lv + b.lv) * t.lv
    rw [Nat.add_mul]
    omega
theorem sg_sub2 (z : Str) (t : Bt) : ∀ b : Bt, (b.sub z t).sg ≤ b.sg + b.lv * t.sg
  | bd _ => Nat.le_add_right _ _
  | fr y => by
    show (if y = z then t else fr y).sg ≤ 1 + 1 * t.sg
    by_cases h : y = z
    · rw [if_pos h]; omega
    · rw [if_neg h]; exact Nat.le_add_right _ _
  | of b => by
    have h := sg_sub2 z t b
    show (b.sub z t).sg + 1 ≤ b.sg + 1 + b.lv * t.sg
    omega
  | to a b => by
    have h1 := sg_sub2 z t a
    have h2 := sg_sub2 z t b
    show (a.sub z t).sg + (b.sub z t).sg + 1 ≤ a.sg + b.sg + 1 + (a.lv + b.lv) * t.sg
    rw [Nat.add_mul]
    omega
def d : Bt → PyData
  | bd n => .tuple [.str "bound", .int (n : Int)]
  | fr z => .tuple [.str "free", .str z]
  | of b => .tuple [.str "of", b.d]
  | to a b => .tuple [.str "to", a.d, b.d]
theorem d_depth : ∀ b : Bt, b.d.depth = b.ly
  | bd _ => rfl
  | fr _ => rfl
  | of b => by
    have h := d_depth b
    show max 0 (max b.d.depth 0) + 1 = b.ly + 1
    rw [h]
    omega
  | to a b => by
    have h1 := d_depth a
    have h2 := d_depth b
    show max 0 (max a.d.depth (max b.d.depth 0)) + 1 = max a.ly b.ly + 1
    rw [h1, h2]
    omega
theorem ok_lay {z : Str} (h : okN z = true) : PyData.canLay0 (.str z) = true := by
  have e := nms_lay (l := [z]) fun y hy => by rw [List.mem_singleton.mp hy]; exact h
  have c := SeqAt.canLay_of_shaped e
  have c2 : (PyData.canLay0 (.str z) && PyData.canLayAll0 []) = true := c
  exact (Bool.and_eq_true_iff.mp c2).1
theorem d_lay : ∀ {b : Bt}, b.all okN = true → b.d.canLay0 = true
  | bd _, _ => by
    show (PyData.canLay0 (.str "bound") && (PyData.canLay0 (.int _) && PyData.canLayAll0 [])) = true
    rw [show PyData.canLay0 (.str "bound") = true by decide +kernel]
    rfl
  | fr z, h => by
    show (PyData.canLay0 (.str "free") && (PyData.canLay0 (.str z) && PyData.canLayAll0 [])) = true
    rw [show PyData.canLay0 (.str "free") = true by decide +kernel, ok_lay h]
    rfl
  | of b, h => by
    show (PyData.canLay0 (.str "of") && (b.d.canLay0 && PyData.canLayAll0 [])) = true
    rw [show PyData.canLay0 (.str "of") = true by decide +kernel, d_lay (b := b) h]
    rfl
  | to a b, h => by
    show (PyData.canLay0 (.str "to") && (a.d.canLay0 && (b.d.canLay0 && PyData.canLayAll0 []))) = true
    rw [show PyData.canLay0 (.str "to") = true by decide +kernel, d_lay (Bool.and_eq_true_iff.mp h).1, d_lay (Bool.and_eq_true_iff.mp h).2]
    rfl
theorem d_shaped {b : Bt} (h : b.all okN = true) (l : b.ly ≤ 64) : SeqAt.shaped b.d = true := by
  unfold SeqAt.shaped
  rw [d_lay h, d_depth b, decide_eq_true l]
  rfl
theorem tag_ne {p q : Str} (n : (p == q) = false) (xs ys : List PyData) : PyData.eqv (.tuple (.str p :: xs)) (.tuple (.str q :: ys)) = false := by
  show ((p == q) && PyData.eqvAll xs ys) = false
  rw [n]
  rfl
theorem d_eqv : ∀ a b : Bt, PyData.eqv a.d b.d = decide (a = b)
  | bd n, bd m => by
    show (("bound" : Str) == "bound" && (((n : Int) == (m : Int)) && true)) = _
    rw [Bool.eq_iff_iff]
    simp
    omega
  | fr z, fr y => by
    show (("free" : Str) == "free" && ((z == y) && true)) = _
    rw [Bool.eq_iff_iff]
    simp
  | of a, of b => by
    show (("of" : Str) == "of" && (PyData.eqv a.d b.d && true)) = _
    rw [d_eqv a b, Bool.eq_iff_iff]
    simp
  | to a b, to c e => by
    show (("to" : Str) == "to" && (PyData.eqv a.d c.d && (PyData.eqv b.d e.d && true))) = _
    rw [d_eqv a c, d_eqv b e, Bool.eq_iff_iff]
    simp
  | bd n, fr z' => (tag_ne (by decide +kernel) _ _).trans (decide_eq_false (fun z => by cases z)).symm
  | bd n, of b' => (tag_ne (by decide +kernel) _ _).trans (decide_eq_false (fun z => by cases z)).symm
  | bd n, to b' c' => (tag_ne (by decide +kernel) _ _).trans (decide_eq_false (fun z => by cases z)).symm
  | fr z, bd n' => (tag_ne (by decide +kernel) _ _).trans (decide_eq_false (fun z => by cases z)).symm
  | fr z, of b' => (tag_ne (by decide +kernel) _ _).trans (decide_eq_false (fun z => by cases z)).symm
  | fr z, to b' c' => (tag_ne (by decide +kernel) _ _).trans (decide_eq_false (fun z => by cases z)).symm
  | of b, bd n' => (tag_ne (by decide +kernel) _ _).trans (decide_eq_false (fun z => by cases z)).symm
  | of b, fr z' => (tag_ne (by decide +kernel) _ _).trans (decide_eq_false (fun z => by cases z)).symm
  | of b, to b' c' => (tag_ne (by decide +kernel) _ _).trans (decide_eq_false (fun z => by cases z)).symm
  | to b c, bd n' => (tag_ne (by decide +kernel) _ _).trans (decide_eq_false (fun z => by cases z)).symm
  | to b c, fr z' => (tag_ne (by decide +kernel) _ _).trans (decide_eq_false (fun z => by cases z)).symm
  | to b c, of b' => (tag_ne (by decide +kernel) _ _).trans (decide_eq_false (fun z => by cases z)).symm
end Bt
theorem Wr.cnt_sg : ∀ (w : Wr) (ar : List Str), (w.cnt ar).sg = w.sg
  | .nm z, ar => by
    show (if z ∈ ar then Bt.bd (ar.idxOf z) else .fr z).sg = 1
    split <;> rfl
  | .of x b, ar => congrArg (· + 1) (Wr.cnt_sg b (x :: ar))
  | .to a b, ar => by
    show (a.cnt ar).sg + (b.cnt ar).sg + 1 = a.sg + b.sg + 1
    rw [Wr.cnt_sg a, Wr.cnt_sg b]
/-- a counted one stands at v -/
inductive TA (H : Hp) : V → Bt → Prop where
  | bd {a : Addr} {n : Nat} : H a = some (.tup [.str "bound", .int (n : Int)]) → TA H (.ref a) (.bd n)
  | fr {a : Addr} {z : Str} : H a = some (.tup [.str "free", .str z]) → TA H (.ref a) (.fr z)
  | of {a : Addr} {v : V} {b : Bt} : H a = some (.tup [.str "of", v]) → TA H v b → TA H (.ref a) (.of b)
  | to {a : Addr} {u v : V} {b c : Bt} : H a = some (.tup [.str "to", u, v]) → TA H u b → TA H v c → TA H (.ref a) (.to b c)
theorem TA.mono {H H' : Hp} {v : V} {b : Bt} (h : TA H v b) (k : ∀ a xs, H a = some (.tup xs) → H' a = some (.tup xs)) : TA H' v b := by
  induction h with
  | bd e => exact .bd (k _ _ e)
  | fr e => exact .fr (k _ _ e)
  | of e _ ih => exact .of (k _ _ e) ih
  | to e _ _ i1 i2 => exact .to (k _ _ e) i1 i2
theorem TA.same {H H' : Hp} {v : V} {b : Bt} (h : TA H v b) (s : Same H H') : TA H' v b := h.mono fun a xs e => s _ _ e
theorem TA.dp {K : PySem.W.Frag} {H : Hp} {v : V} {b : Bt} (h : TA H v b) : Dp K H v b.d := by
  induction h with
  | bd e => exact .tup (SqT.of e) (.cons (.str _) (.cons (.int _) .nil))
  | fr e => exact .tup (SqT.of e) (.cons (.str _) (.cons (.str _) .nil))
  | of e _ ih => exact .tup (SqT.of e) (.cons (.str _) (.cons ih .nil))
  | to e _ _ i1 i2 => exact .tup (SqT.of e) (.cons (.str _) (.cons i1 (.cons i2 .nil)))
/-- what put promises: a writing in tuples that is, counted outwards, what must be -/
def spPut (K : PySem.W.Frag) : Sp := fun vs H Q _ => ∃ (v u : V) (x : Str) (d e : PyData) (w a : Wr), vs = [v, .str x, u] ∧ Dp K H v d ∧ Tells d w ∧ w.all okN = true ∧ w.sg ≤ 2000 ∧ w.ly ≤ 200 ∧ okN x = true ∧ Dp K H u e ∧ Tells e a ∧ a.all okN = true ∧ a.sg ≤ 2000 ∧ a.ly ≤ 200 ∧
  ((w.cnt []).sub x (a.cnt [])).sg ≤ 2000 ∧ ((w.cnt []).sub x (a.cnt [])).ly ≤ 200 ∧
  ∀ (v' : V) (w' : Wr) (H' : Hp), Same H H' → WA H' v' w' → w'.all okN = true → w'.cnt [] = (w.cnt []).sub x (a.cnt []) → Q v' H'
/-- what alike promises -/
def spAlike (K : PySem.W.Frag) : Sp := fun vs H Q _ => ∃ (v u : V) (d e : PyData) (w a : Wr), vs = [v, u] ∧ Dp K H v d ∧ Tells d w ∧ w.all okN = true ∧ w.sg ≤ 2000 ∧ w.ly ≤ 200 ∧ Dp K H u e ∧ Tells e a ∧ a.all okN = true ∧ a.sg ≤ 2000 ∧ a.ly ≤ 200 ∧
  ∀ (H' : Hp), Same H H' → Q (.bl (w.alk a)) H'
end TG
/-! small words for lists of names, tuples, slices -/
namespace TG
open PySem PySem.Spec L2
open PyProof.Rows hiding St
theorem new_same {H : Hp} {q : Addr} {o : HO} (h : H q = none) : Same H (L2.upd H q o) := fun b u hb => by rw [upd_ne (ne_of_none hb h)]; exact hb
theorem take_more {α : Type} {xs : List α} {i : Nat} {x : α} (h : xs[i]? = some x) : xs.take (i + 1) = xs.take i ++ [x] := by
  rw [List.take_add_one, h]
  rfl
theorem last_snoc (l : List V) (x : V) : (l ++ [x])[(l ++ [x]).length - 1]? = some x := by simp
theorem inV_strs (z : Str) (l : List Str) : inV (.str z) (l.map V.str) = decide (z ∈ l) := by
  unfold inV
  rw [Bool.eq_iff_iff, List.any_eq_true, decide_eq_true_eq]
  constructor
  · rintro ⟨y, hy, e⟩
    obtain ⟨x, hx, rfl⟩ := List.mem_map.mp hy
    have h : x = z := by simpa [eqV] using e
    exact h ▸ hx
  · exact fun h => ⟨.str z, List.mem_map.mpr ⟨z, h, rfl⟩, by simp [eqV]⟩
theorem flat_strs (l : List Str) : (l.map V.str).all flatV = true := List.all_eq_true.mpr fun y hy => by
  obtain ⟨x, _, rfl⟩ := List.mem_map.mp hy
  rfl
theorem sqT_same {K : PySem.W.Frag} {H H' : Hp} {a : Addr} {xs : List V} (h : SqT K H a xs) (s : Same H H') : SqT K H' a xs := by
  rcases h with h | h
  · rcases h with h | ⟨o, h⟩
    · exact .inl (.inl (s _ _ h))
    · exact .inl (.inr ⟨o, s _ _ h⟩)
  · exact .inr h
theorem cat_any {K : PySem.W.Frag} {H : Hp} {a b : Addr} {xs ys : List V} {Q : VK} (ha : SqT K H a xs) (hb : SqT K H b ys) (hl : xs.length + ys.length ≤ sizeLine) (q : ∀ (c : Addr) (G : Hp), Same H G → SqT K G c (xs ++ ys) → Q (.ref c) G) : rCatA K (.ref a) (.ref b) H Q := by
  refine ⟨a, b, xs, ys, rfl, rfl, ha, hb, hl, fun e => ?_, fun _ e => ?_, fun _ _ p hp => q p _ (new_same hp) (SqT.of upd_same)⟩
  · subst e
    exact q b H (fun _ _ e => e) hb
  · subst e
    exact q a H (fun _ _ e => e) (by rw [List.append_nil]; exact ha)
theorem mem_all {l : List Str} {p : Str → Bool} (h : l.all p = true) : ∀ z ∈ l, p z = true := fun z hz => List.all_eq_true.mp h z hz
theorem erase_map (f : Str → V) : ∀ (l : List Str) (k : Nat), (l.map f).eraseIdx k = (l.eraseIdx k).map f
  | [], _ => rfl
  | _ :: _, 0 => rfl
  | x :: r, k + 1 => by
    show f x :: (r.map f).eraseIdx k = f x :: (r.eraseIdx k).map f
    rw [erase_map f r k]
theorem cut_from (l : List V) (k : Nat) (h : k ≤ l.length) : cutV l (some (k : Int)) none = l.drop k := by
  unfold cutV
  rw [HT.sIx_none, HT.sIx_nat, Nat.min_eq_left h, List.take_of_length_le]
  rw [List.length_drop]
  exact Nat.le_refl _
theorem cut_to (l : List V) (k : Nat) (h : k ≤ l.length) : cutV l none (some (k : Int)) = l.take k := by
  unfold cutV
  rw [HT.sIx_none, HT.sIx_nat, Nat.min_eq_left h, List.drop_zero, Nat.sub_zero]
theorem perm_erase : ∀ {ls : List Str} {k : Nat} {y : Str}, ls[k]? = some y → (y :: ls.eraseIdx k).Perm ls
  | x :: r, 0, y, h => by cases h; exact .refl _
  | x :: r, k + 1, y, h => (List.Perm.swap x y _).trans (.cons x (perm_erase (k := k) (ls := r) h))
theorem perm_move {os ls : List Str} {k : Nat} {y : Str} (h : ls[k]? = some y) : (os ++ [y] ++ ls.eraseIdx k).Perm (os ++ ls) := by
  rw [List.append_assoc]
  exact (perm_erase h).append_left os
theorem all_imp {p q : Str → Bool} (h : ∀ z, p z = true → q z = true) : ∀ {w : Wr}, w.all p = true → w.all q = true
  | .nm z, e => h z e
  | .of x b, e => Bool.and_eq_true_iff.mpr ⟨h x (Bool.and_eq_true_iff.mp e).1, all_imp h (Bool.and_eq_true_iff.mp e).2⟩
  | .to a b, e => Bool.and_eq_true_iff.mpr ⟨all_imp h (Bool.and_eq_true_iff.mp e).1, all_imp h (Bool.and_eq_true_iff.mp e).2⟩
theorem paired_get {α β : Type} {R : α → β → Prop} : ∀ {xs : List α} {ys : List β} {i : Nat} {x : α}, Paired R xs ys → xs[i]? = some x → ∃ y, ys[i]? = some y ∧ R x y
  | _, _, 0, _, .cons r _, e => by cases e; exact ⟨_, rfl, r⟩
  | _, _, i + 1, x, .cons _ t, e => paired_get (i := i) t e
theorem paired_snoc {α β : Type} {R : α → β → Prop} {x : α} {y : β} (r : R x y) : ∀ {xs : List α} {ys : List β}, Paired R xs ys → Paired R (xs ++ [x]) (ys ++ [y])
  | _, _, .nil => .cons r .nil
  | _, _, .cons a t => .cons a (paired_snoc r t)
theorem paired_imp {α β : Type} {R S : α → β → Prop} (h : ∀ x y, R x y → S x y) : ∀ {xs : List α} {ys : List β}, Paired R xs ys → Paired S xs ys
  | _, _, .nil => .nil
  | _, _, .cons a t => .cons (h _ _ a) (paired_imp h t)
theorem paired_len {α β : Type} {R : α → β → Prop} : ∀ {xs : List α} {ys : List β}, Paired R xs ys → xs.length = ys.length
  | _, _, .nil => rfl
  | _, _, .cons _ t => congrArg (· + 1) (paired_len t)
theorem paired_and {α β : Type} {R S T : α → β → Prop} (h : ∀ x y, R x y → S x y → T x y) : ∀ {xs : List α} {ys : List β}, Paired R xs ys → Paired S xs ys → Paired T xs ys
  | _, _, .nil, .nil => .nil
  | _, _, .cons a t, .cons b u => .cons (h _ _ a b) (paired_and h t u)
theorem filt_more {p : Str → Bool} {xs : List Str} {i : Nat} {x : Str} (h : xs[i]? = some x) : (xs.take (i + 1)).filter p = (xs.take i).filter p ++ if p x = true then [x] else [] := by
  rw [take_more h, List.filter_append]
  congr 1
  by_cases e : p x = true
  · rw [if_pos e, List.filter_cons_of_pos e]
    rfl
  · rw [if_neg e, List.filter_cons_of_neg e]
    rfl
end TG
/-! own rules: an attribute among the targets of a tuple, a written dict's get, tuple(dict) -/
namespace TG
open PySem PySem.Spec L2
open PyProof.Rows hiding St
/-- .. , o.f, .. = value -/
def gFld (K : PySem.W.Frag) (to : TE) (f : Str) : TG := fun v σ H Q => to σ H fun x H1 => ∃ a C dx fs, x = .ref a ∧ H1 a = some (.ins C dx fs) ∧ Cls K C ∧ NoAttr K C f ∧ fs.length < 1000 ∧ Q σ (upd H1 a (.ins C dx (putF f v fs)))
section
variable {X : Cx} {o : Expr} {to : TE} {f : Str} {pos : Pos}
theorem pg_fld (ho : PE X o to) (ha : ∀ v, assign (.Attribute o f pos) X.env v = (do
      let ov ← holding [v] (eval o X.env)
      standAt pos.atName
      holding [v, ov] (setAttr ov f v)
      release [v, ov] []) := by intro _; rfl) : PG X (.Attribute o f pos) (gFld X.K to f) := by
  refine ⟨fun pins s σ H v u Q I r h => ?_⟩
  rw [ha]
  refine wpAny_bind (wpAny_holding (thn (ho.run pins s σ H _ I h) fun ov s1 ⟨x, H1, I1, r1, a, C, dx, fs, ex, ea, c, n, l, q⟩ => ?_))
  subst ex
  obtain rfl : ov = Value.ref a := r1
  refine wpAny_bind (wpAny_standAt (wpAny_bind (wpAny_holding ?_)))
  exact setattr_ok I1 ea c n l r fun s3 I3 => wpAny_release ⟨σ, _, I3, q⟩
end
/-! ### d.get(k, x) of a dict of the module's top, its keys texts -/
/-- such a dict stands there -/
def KDic (K : PySem.W.Frag) (w : World) (a : Addr) : Prop := ∃ es n, K.lookup a = some ⟨.type "dict", none, .dict es n, #[]⟩ ∧ PySem.W.KeysLit w.params es.toList ∧ (a == sysModules) = false
def tKGet (K : PySem.W.Frag) (w : World) (td ty tx : TE) : TE := fun σ H Q => td σ H fun x H1 => ∃ a, x = .ref a ∧ KDic K w a ∧ ty σ H1 fun y H2 => tx σ H2 fun z H3 => ∃ k, y = .str k ∧
  ((∃ v u, PySem.W.nsIn K a k = some (some u) ∧ RelV v u ∧ Q v H3) ∨ (PySem.W.nsIn K a k = some none ∧ Q z H3))
section
variable {X : Cx} {o e f : Expr} {apos cpos : Pos} {td ty tx : TE}
theorem pe_kget (ho : PE X o td) (he : PE X e ty) (hf : PE X f tx) (m : M2 X o "get" apos e f cpos) : PE X (.Call (.Attribute o "get" apos) [e, f] [] cpos) (tKGet X.K X.w td ty tx) := by
  refine ⟨fun pins s σ H Q I h => ?_⟩
  refine wpAny_Call_method m.base m.few m.line PySem.F.plainAttrs_dict PySem.F.slot_dict_get PySem.F.type_dict_get (thn (ho.run pins s σ H _ I h) fun u s1 ⟨x, H1, I1, rx, a, ex, ⟨es, n, hl, hk, hs⟩, q1⟩ => ?_)
  subst ex
  obtain rfl : u = Value.ref a := rx
  have hm1 := PySem.W.mapOf_K (prog := X.prog) (w := X.w) I1.kIn hl hk
  refine ⟨hm1.typeIs, fun b q => ?_, ?_⟩
  · cases q
    exact ⟨_, I1.kIn _ _ hl, rfl⟩
  rw [m.trees]
  refine Calls.callWith_builtin rfl (Calls.evalArgs_plain (Calls.spliced_cons (thn (he.run pins s1 σ H1 _ I1 q1) fun iv s2 ⟨y, H2, I2, ry, q2⟩ =>
    Calls.spliced_cons (thn (hf.run pins s2 σ H2 _ I2 q2) fun fv s3 ⟨z, H3, I3, rz, k, ey, q3⟩ => Calls.spliced_nil ?_))))
  subst ey
  obtain ⟨t, rfl⟩ := (show ∃ t, iv = Value.str k t from ry)
  have hm := PySem.W.mapOf_K (prog := X.prog) (w := X.w) I3.kIn hl hk
  refine call_meetsIn PySem.F.slot_dict_get hm.typeIs PySem.F.entry_dict_get (PySem.F.args_dict_get_3 _ _ _) (meets_dict_get_default (strKind X.prog X.w) a (strKind_is X.prog X.w k t) hs fv) ⟨_, hm, ?_⟩
  rcases q3 with ⟨v, u, e, r, q⟩ | ⟨e, q⟩
  · rw [PySem.W.find_K hl e]
    exact ⟨v, H3, I3.tok _, r, q⟩
  · rw [PySem.W.find_K hl e]
    exact ⟨z, H3, I3.tok _, rz, q⟩
end
/-! ### tuple(d), the keys of a dict -/
section
variable {prog : Program} {w : World} {A : Around} {E : Value → Shared → Prop} {s : Shared} {T : String} {r d : Addr} {n : Nat} {P : Nat → Value → Prop} {OK : Heap → Prop}
theorem collect_src {Q : List Value → Shared → Prop} (K : PySem.W.KdlSrc prog w T r d n P OK) (hh : A.handled = none) (hok : OK s.heap)
    (hQ : ∀ h' tk (acc : Array Value), (∀ b o, s.heap.get? b = some o → Heap.get? h' b = some o) → ItemsOf P acc n → Q acc.toList { s with heap := h', toks := tk }) (hn : n ≤ sizeLine) :
    wpAny (model prog w) A (collect (.ref r)) Q E s := by
  unfold collect
  refine wpAny_bind (wpAny_runValue (codeAny_builtin PySem.F.entry_proto_collect ?_))
  rw [Around.under_plainId PySem.F.plain_proto_collect _]
  show wpAny _ A.in1 (newList [] >>= fun l => again (.builtin "list.__iadd__" ⟨[l, .ref r], []⟩)) _ _ s
  refine wpAny_bind (wpAny_newObj_type ?_)
  refine wpAny_pure ⟨plainId_quiet PySem.F.plain_list_iadd _, codeAny_builtin PySem.F.entry_list_iadd ?_⟩
  rw [Around.under_plainId PySem.F.plain_list_iadd _]
  show wpAny _ A.in1 (Builtin.List.listExtendWith (.ref s.heap.objs.size) (.ref r) (.ref s.heap.objs.size)) _ _ _
  have hlt := K.there _ hok
  have hS : (s.heap.push { cls := .type "list", data := .seq ([] : List Value).toArray }).get? s.heap.objs.size = some { cls := .type "list", data := .seq #[] 0 } := Heap.get?_push_size _ rfl
  refine wpAny_mono (PySem.W.kdl_extend (R := fun res s' => res = .ok (.ret (.ref s.heap.objs.size)) ∧ ∃ h' tk acc c', s' = { s with heap := h', toks := tk } ∧ (∀ b o, s.heap.get? b = some o → h'.get? b = some o) ∧ h'.get? s.heap.objs.size = some { cls := .type "list", dict := none, data := .seq acc c', slots := #[] } ∧ ItemsOf P acc n)
    (s := { s with heap := s.heap.push { cls := .type "list", data := .seq ([] : List Value).toArray } }) K hh (K.keep _ _ hok fun b _ o e => Heap.get?_push_of_some _ e) s.heap.objs.size (Nat.ne_of_gt hlt.1) (Nat.ne_of_gt hlt.2) _ 0 hS
    (fun h' tk acc' c' hk hS' hacc => ⟨rfl, h', tk, acc', c', rfl, fun b o e => hk b o (Nat.ne_of_lt (Heap.lt_size e)) (Heap.get?_push_of_some _ e), hS', hacc⟩) hn) (fun fin s' h => ?_) (fun e s' h => ?_)
  · have fin' : ∀ s' : Shared, (∃ h' tk acc c', s' = { s with heap := h', toks := tk } ∧ (∀ b o, s.heap.get? b = some o → h'.get? b = some o) ∧ h'.get? s.heap.objs.size = some { cls := .type "list", dict := none, data := .seq acc c', slots := #[] } ∧ ItemsOf P acc n) →
        wpAny (model prog w) A (match Value.ref s.heap.objs.size with
          | Value.ref a => do
            match (← load a).data with
              | Data.seq xs _ => pure xs.toList
              | _ => unsupported "internal:collect"
          | _ => unsupported "internal:collect") Q E s' := by
      rintro s' ⟨h', tk, acc, c', rfl, hk, hg, hi⟩
      show wpAny _ A (load s.heap.objs.size >>= _) _ _ _
      refine wpAny_bind (wpAny_load hg ?_)
      exact wpAny_pure (hQ h' tk acc hk hi)
    cases fin with
    | done f =>
      obtain ⟨e, h⟩ := h
      cases e
      exact fin' _ h
    | again c' => exact ⟨h.1, codeAny_mono h.2 fun r s'' hr => by obtain ⟨rfl, h⟩ := hr; exact fin' _ h⟩
  · exact absurd h.1 (by simp)
theorem code_tuple_src {Q₁ : Value → Shared → Prop} (K : PySem.W.KdlSrc prog w T r d n P OK) (hne : (Value.type T == Value.type "tuple") = false) (hh : A.handled = none) (hok : OK s.heap)
    (h : ∀ h' tk (acc : Array Value), (∀ b o, s.heap.get? b = some o → Heap.get? h' b = some o) → ItemsOf P acc n → Q₁ (.ref h'.objs.size) { s with heap := h'.push { cls := .type "tuple", data := .seq acc }, toks := tk }) (hsz : n ≤ sizeLine) :
    codeAny (model prog w) A (.call (.builtin "tuple.__new__") ⟨[.type "tuple", .ref r], []⟩) (wants Q₁ E) s := by
  refine codeAny_of_tree ?_
  show wpAny _ A.in1 (do checkBuiltinCall "tuple.__new__" ⟨[.type "tuple", .ref r], []⟩; again (.builtin "tuple.__new__" ⟨[.type "tuple", .ref r], []⟩)) _ _ s
  refine wpAny_bind (wpAny_of_eq (PySem.F.newCall_tuple_1 _) (wpAny_pure ⟨plainId_quiet PySem.F.plain_tuple_new _, codeAny_builtin PySem.F.entry_tuple_new ?_⟩))
  rw [Around.under_plainId PySem.F.plain_tuple_new _]
  have hsub := sub_tuple_self
  have hinit := init_tuple_lookup
  have hmh := madeHere_tuple
  have hTI := K.type s hok
  wp_walk using wpAny_typeOf hTI, collect_src (A := A.in1) (hn := hsz) K hh hok
  intro h' tk acc hk hacc
  show wpAny _ _ (Builtin.Tuple.tupleExact acc.toList.toArray >>= fun v => ret v) _ _ _
  unfold Builtin.Tuple.tupleExact
  refine wpAny_bind (wpAny_newObj_type ?_ (by show acc.toList.toArray.size ≤ sizeLine; simp only [Array.toArray_toList]; rw [hacc.1]; exact hsz))
  refine wpAny_pure ?_
  have e : acc.toList.toArray = acc := by simp
  rw [e]
  exact h h' tk acc hk hacc
theorem call_tuple_src {Q : Value → Shared → Prop} (K : PySem.W.KdlSrc prog w T r d n P OK) (hne : (Value.type T == Value.type "tuple") = false) (hh : A.handled = none) (hok : OK s.heap)
    (hQ : ∀ h' tk (acc : Array Value), (∀ b o, s.heap.get? b = some o → Heap.get? h' b = some o) → ItemsOf P acc n → Q (.ref h'.objs.size) { s with heap := h'.push { cls := .type "tuple", data := .seq acc }, toks := tk }) (hsz : n ≤ sizeLine) :
    wpAny (model prog w) A (call (.type "tuple") [.ref r]) Q E s := by
  refine callType_codes (Q₁ := fun obj s₁ => s₁.TypeIs obj "tuple" ∧ Q obj s₁) PySem.F.called_tuple (PySem.F.typeCall_tuple_1 _) PySem.F.entry_object_init
    (code_tuple_src (A := A.in1) K hne hh hok (fun h' tk acc hk hacc => ⟨⟨_, Heap.get?_push_size _ rfl, rfl⟩, hQ h' tk acc hk hacc⟩) hsz) fun obj s₁ h₁ => ?_
  exact ⟨h₁.1, PySem.F.args_object_init_2 obj _, object_init_meets PySem.F.called_tuple.init.lookup PySem.F.called_tuple.made (by decide) prog w A.in1 _ s₁ ⟨h₁.1, rfl, h₁.2⟩⟩
end
/-- the keys of a dict, in a new tuple -/
def rTupD : List V → Hp → VK → Prop := fun xs H Q => ∃ (d : Addr) (kvs : List (Key × V)), xs = [.ref d] ∧ Rd H d (.dK kvs) ∧ ∀ p, H p = none → Q (.ref p) (L2.upd H p (.tup (kvs.map fun kv => kV kv.1)))
section
variable {X : Cx}
theorem rel_kV {P : Program} {w : World} {k : Key} {v : Value} (h : (mixKind P w).is k v = true) : RelV (kV k) v := by
  rcases keyIs_shape (show keyIs k v = true from h) with ⟨i, t, rfl, rfl⟩ | ⟨x, t, rfl, rfl⟩
  · exact ⟨t, rfl⟩
  · exact ⟨t, rfl⟩
theorem vals_of : ∀ {xs : List V} {us : List Value}, xs.length = us.length → (∀ (i : Nat) (x : V) (u : Value), xs[i]? = some x → us[i]? = some u → RelV x u) → Vals xs us
  | [], [], _, _ => .nil
  | x :: xs, u :: us, hl, h => .cons (h 0 x u rfl rfl) (vals_of (Nat.succ.inj hl) fun i y v hy hv => h (i + 1) y v hy hv)
  | [], _ :: _, hl, _ => nomatch hl
  | _ :: _, [], hl, _ => nomatch hl
theorem kv_key : ∀ {kvs : List (Key × V)} {vs : List (Key × Value)} {i : Nat} {k : Key} {x : V}, KV kvs vs → kvs[i]? = some (k, x) → ∃ y, vs[i]? = some (k, y)
  | _, _, _, _, _, .nil, e => nomatch e
  | _, _, 0, _, _, .cons (b := b) h _, e => by cases e; obtain ⟨b1, b2⟩ := b; cases h.1; exact ⟨b2, rfl⟩
  | _, _, i + 1, k, x, .cons _ t, e => kv_key (i := i) (k := k) (x := x) t e
theorem call_tupleD (hc : X.calm = true) : CallR X (.type "tuple") rTupD := by
  intro pins s σ H xs us Q I r h
  obtain ⟨d, kvs, rfl, hd, q⟩ := h
  obtain ⟨u, rfl, rx⟩ := vals1 r
  cases rx
  obtain ⟨z, lo, vs, rel, o, es, ep, d1, d2, d3, d4, d5, d6⟩ := dk_rd I.hok hd
  have hl := rel.length
  refine call_tuple_src (n := vs.length) (PySem.W.kdl_dict (kvs := vs) (ep := ep) lo) (by decide +kernel) (I.ok.hd hc) ⟨o, es, d1, d2, d3, d4, d5, d6⟩ (fun h' tk acc hk hacc => ?_) (by omega)
  have rv : Vals (kvs.map fun kv => kV kv.1) acc.toList := by
    refine vals_of ((List.length_map _).trans (hl.trans hacc.1.symm)) fun i x u hx hu => ?_
    rw [List.getElem?_map] at hx
    obtain ⟨kv, hkv, rfl⟩ := Option.map_eq_some_iff.mp hx
    obtain ⟨y, hy⟩ := kv_key (i := i) (k := kv.1) (x := kv.2) rel hkv
    obtain ⟨k, x2, e1, e2⟩ := hacc.2 i u (by rw [← Array.getElem?_toList]; exact hu)
    rw [hy] at e1
    cases e1
    exact rel_kV e2
  have I1 : Inv X pins σ H { s with heap := h', toks := tk } := I.kept (t' := tk) hk
  have I2 : Inv X pins σ (L2.upd H h'.objs.size (.tup (kvs.map fun kv => kV kv.1))) { s with heap := h'.push { cls := .type "tuple", data := .seq acc }, toks := tk } :=
    I1.laid (t' := tk) (fun b o e => Heap.get?_push_of_some _ e) (Nat.le_refl _) (show ObjOk X.prog X.w _ _ _ (.tup _) from ⟨by rw [List.length_map]; exact z, acc.toList, rv, by rw [Array.toArray_toList]; exact IsTup.new _ _⟩)
  exact ⟨.ref h'.objs.size, _, I2, rfl, q _ (I1.hok.fresh (Nat.le_refl _))⟩
end
end TG
/-! the row of a writing's signs: what begins at each, what is bound around it, what it hangs on -/
namespace TG
open PySem PySem.Spec L2
open PyProof.Rows hiding St
namespace Wr
/-- what begins at each sign -/
def subs : Wr → List Wr
  | nm z => [nm z]
  | of x b => of x b :: b.subs
  | to a b => to a b :: (a.subs ++ b.subs)
/-- where its own parts begin, counted from it -/
def kids : Wr → List Nat
  | nm _ => []
  | of _ _ => [1]
  | to a _ => [1, 1 + a.sg]
def wd : Wr → Str
  | nm _ => "name"
  | of _ _ => "of"
  | to _ _ => "to"
theorem subs_len : ∀ w : Wr, w.subs.length = w.sg
  | nm _ => rfl
  | of _ b => by show b.subs.length + 1 = _; rw [subs_len b]; rfl
  | to a b => by show (a.subs ++ b.subs).length + 1 = _; rw [List.length_append, subs_len a, subs_len b]; rfl
theorem subs_zero : ∀ w : Wr, w.subs[0]? = some w
  | nm _ => rfl
  | of _ _ => rfl
  | to _ _ => rfl
theorem subs_at : ∀ {w s : Wr} {i : Nat}, w.subs[i]? = some s → ∀ j, j < s.sg → w.subs[i + j]? = s.subs[j]?
  | w, s, 0, h, j, _ => by
    rw [subs_zero] at h
    cases h
    rw [Nat.zero_add]
  | nm _, s, i + 1, h, j, _ => nomatch h
  | of x b, s, i + 1, h, j, hj => by
    have h : b.subs[i]? = some s := h
    rw [show i + 1 + j = (i + j) + 1 by omega]
    show b.subs[i + j]? = _
    exact subs_at h j hj
  | to a b, s, i + 1, h, j, hj => by
    have h : (a.subs ++ b.subs)[i]? = some s := h
    rw [show i + 1 + j = (i + j) + 1 by omega]
    show (a.subs ++ b.subs)[i + j]? = _
    by_cases c : i < a.subs.length
    · rw [List.getElem?_append_left c] at h
      have e := subs_at h j hj
      have hs : j < s.subs.length := by rw [subs_len]; exact hj
      have c2 : i + j < a.subs.length := by
        rw [List.getElem?_eq_getElem hs] at e
        exact (List.getElem?_eq_some_iff.mp e).1
      rw [List.getElem?_append_left c2, e]
    · rw [List.getElem?_append_right (by omega)] at h
      rw [List.getElem?_append_right (by omega), show i + j - a.subs.length = (i - a.subs.length) + j by omega]
      exact subs_at h j hj
theorem subs_lt {w s : Wr} {i : Nat} (h : w.subs[i]? = some s) : i < w.sg := by
  rw [← subs_len]
  exact (List.getElem?_eq_some_iff.mp h).1
theorem subs_fit {w s : Wr} {i : Nat} (h : w.subs[i]? = some s) : i + s.sg ≤ w.sg := by
  have p := s.sg_pos
  have e := subs_at h (s.sg - 1) (by omega)
  have hs : s.sg - 1 < s.subs.length := by rw [subs_len]; omega
  have := subs_lt (e.trans (List.getElem?_eq_getElem hs))
  omega
theorem kid_of {w b : Wr} {x : Str} {i : Nat} (h : w.subs[i]? = some (of x b)) : w.subs[i + 1]? = some b := by
  have p := b.sg_pos
  rw [subs_at h 1 (by show 1 < b.sg + 1; omega)]
  show b.subs[0]? = _
  exact subs_zero b
theorem kid_one {w a b : Wr} {i : Nat} (h : w.subs[i]? = some (to a b)) : w.subs[i + 1]? = some a := by
  have p := a.sg_pos
  rw [subs_at h 1 (by show 1 < a.sg + b.sg + 1; omega)]
  show (a.subs ++ b.subs)[0]? = _
  rw [List.getElem?_append_left (by rw [subs_len]; omega)]
  exact subs_zero a
theorem kid_two {w a b : Wr} {i : Nat} (h : w.subs[i]? = some (to a b)) : w.subs[i + 1 + a.sg]? = some b := by
  have p := b.sg_pos
  rw [show i + 1 + a.sg = i + (a.sg + 1) by omega, subs_at h (a.sg + 1) (by show a.sg + 1 < a.sg + b.sg + 1; omega)]
  show (a.subs ++ b.subs)[a.sg]? = _
  rw [List.getElem?_append_right (by rw [subs_len]; omega), subs_len, Nat.sub_self]
  exact subs_zero b
/-- each sign but the first begins a part of one ahead -/
theorem has_par : ∀ {w : Wr} {i : Nat}, 0 < i → i < w.sg → ∃ j s k, j < i ∧ w.subs[j]? = some s ∧ k ∈ s.kids ∧ i = j + k
  | nm _, i, h0, h1 => by
    have : i < 1 := h1
    omega
  | of x b, i, h0, h1 => by
    have h1 : i < b.sg + 1 := h1
    by_cases c : i = 1
    · exact ⟨0, of x b, 1, h0, rfl, List.mem_singleton_self 1, by omega⟩
    · obtain ⟨j, s, k, hj, hs, hk, e⟩ := has_par (w := b) (i := i - 1) (by omega) (by omega)
      exact ⟨j + 1, s, k, by omega, hs, hk, by omega⟩
  | to a b, i, h0, h1 => by
    have h1 : i < a.sg + b.sg + 1 := h1
    by_cases c : i = 1
    · exact ⟨0, to a b, 1, h0, rfl, List.mem_cons_self, by omega⟩
    by_cases c2 : i = 1 + a.sg
    · exact ⟨0, to a b, 1 + a.sg, h0, rfl, List.mem_cons_of_mem _ (List.mem_singleton_self _), by omega⟩
    by_cases c3 : i < 1 + a.sg
    · obtain ⟨j, s, k, hj, hs, hk, e⟩ := has_par (w := a) (i := i - 1) (by omega) (by omega)
      refine ⟨j + 1, s, k, by omega, ?_, hk, by omega⟩
      show (a.subs ++ b.subs)[j]? = _
      rw [List.getElem?_append_left (by rw [subs_len]; exact subs_lt hs)]
      exact hs
    · obtain ⟨j, s, k, hj, hs, hk, e⟩ := has_par (w := b) (i := i - 1 - a.sg) (by omega) (by omega)
      refine ⟨j + a.sg + 1, s, k, by omega, ?_, hk, by omega⟩
      show (a.subs ++ b.subs)[j + a.sg]? = _
      rw [List.getElem?_append_right (by rw [subs_len]; omega), subs_len, Nat.add_sub_cancel]
      exact hs
/-- the "of"s around each sign, the innermost first: their names and where they stand -/
def envs : Wr → Nat → List (Str × Nat) → List (List (Str × Nat))
  | nm _, _, e => [e]
  | of x b, o, e => e :: b.envs (o + 1) ((x, o) :: e)
  | to a b, o, e => e :: (a.envs (o + 1) e ++ b.envs (o + 1 + a.sg) e)
theorem envs_len : ∀ (w : Wr) (o : Nat) (e : List (Str × Nat)), (w.envs o e).length = w.sg
  | nm _, _, _ => rfl
  | of x b, o, e => by show (b.envs _ _).length + 1 = _; rw [envs_len b]; rfl
  | to a b, o, e => by show (a.envs _ _ ++ b.envs _ _).length + 1 = _; rw [List.length_append, envs_len a, envs_len b]; rfl
theorem envs_zero : ∀ (w : Wr) (o : Nat) (e : List (Str × Nat)), (w.envs o e)[0]? = some e
  | nm _, _, _ => rfl
  | of _ _, _, _ => rfl
  | to _ _, _, _ => rfl
theorem envs_at : ∀ {w s : Wr} {i o : Nat} {e0 : List (Str × Nat)}, w.subs[i]? = some s → ∃ e, ∀ j, j < s.sg → (w.envs o e0)[i + j]? = (s.envs (o + i) e)[j]?
  | w, s, 0, o, e0, h => by
    rw [subs_zero] at h
    cases h
    exact ⟨e0, fun j _ => by rw [Nat.zero_add, Nat.add_zero]⟩
  | nm _, s, i + 1, o, e0, h => nomatch h
  | of x b, s, i + 1, o, e0, h => by
    obtain ⟨e, he⟩ := envs_at (w := b) (o := o + 1) (e0 := (x, o) :: e0) (show b.subs[i]? = some s from h)
    refine ⟨e, fun j hj => ?_⟩
    rw [show i + 1 + j = (i + j) + 1 by omega, show o + (i + 1) = o + 1 + i by omega]
    exact he j hj
  | to a b, s, i + 1, o, e0, h => by
    have h : (a.subs ++ b.subs)[i]? = some s := h
    by_cases c : i < a.subs.length
    · rw [List.getElem?_append_left c] at h
      obtain ⟨e, he⟩ := envs_at (w := a) (o := o + 1) (e0 := e0) h
      refine ⟨e, fun j hj => ?_⟩
      rw [show i + 1 + j = (i + j) + 1 by omega, show o + (i + 1) = o + 1 + i by omega]
      show (a.envs (o + 1) e0 ++ _)[i + j]? = _
      have f := subs_fit h
      rw [List.getElem?_append_left (by rw [envs_len]; omega)]
      exact he j hj
    · rw [List.getElem?_append_right (by omega), subs_len] at h
      rw [subs_len] at c
      obtain ⟨e, he⟩ := envs_at (w := b) (o := o + 1 + a.sg) (e0 := e0) h
      refine ⟨e, fun j hj => ?_⟩
      rw [show i + 1 + j = (i + j) + 1 by omega, show o + (i + 1) = o + 1 + a.sg + (i - a.sg) by omega]
      show (a.envs (o + 1) e0 ++ b.envs (o + 1 + a.sg) e0)[i + j]? = _
      rw [List.getElem?_append_right (by rw [envs_len]; omega), envs_len, show i + j - a.sg = (i - a.sg) + j by omega]
      exact he j hj
/-- the "of"s around the sign at i -/
def env (w : Wr) (i : Nat) : List (Str × Nat) := ((w.envs 0 [])[i]?).getD []
theorem env_eq {w : Wr} {i : Nat} (h : i < w.sg) : (w.envs 0 [])[i]? = some (w.env i) := by
  unfold env
  rw [List.getElem?_eq_getElem (by rw [envs_len]; exact h)]
  rfl
theorem env_zero (w : Wr) : w.env 0 = [] := by
  unfold env
  rw [envs_zero]
  rfl
theorem env_of {w b : Wr} {x : Str} {i : Nat} (h : w.subs[i]? = some (of x b)) : w.env (i + 1) = (x, i) :: w.env i := by
  obtain ⟨e, he⟩ := envs_at (o := 0) (e0 := []) h
  have h0 := he 0 (Nat.succ_pos _)
  have h1 := he 1 (by have := b.sg_pos; show 1 < b.sg + 1; omega)
  rw [Nat.add_zero, Nat.zero_add] at h0
  rw [Nat.zero_add] at h1
  unfold env
  rw [h0, h1]
  show (((b.envs (i + 1) ((x, i) :: e))[0]?).getD []) = _
  rw [envs_zero, envs_zero]
  rfl
theorem env_one {w a b : Wr} {i : Nat} (h : w.subs[i]? = some (to a b)) : w.env (i + 1) = w.env i := by
  obtain ⟨e, he⟩ := envs_at (o := 0) (e0 := []) h
  have h0 := he 0 (Nat.succ_pos _)
  have h1 := he 1 (by have := a.sg_pos; show 1 < a.sg + b.sg + 1; omega)
  rw [Nat.add_zero, Nat.zero_add] at h0
  rw [Nat.zero_add] at h1
  unfold env
  rw [h0, h1]
  show (((a.envs (i + 1) e ++ _)[0]?).getD []) = _
  rw [List.getElem?_append_left (by rw [envs_len]; exact a.sg_pos), envs_zero, envs_zero]
theorem env_two {w a b : Wr} {i : Nat} (h : w.subs[i]? = some (to a b)) : w.env (i + 1 + a.sg) = w.env i := by
  obtain ⟨e, he⟩ := envs_at (o := 0) (e0 := []) h
  have h0 := he 0 (Nat.succ_pos _)
  have h1 := he (a.sg + 1) (by have := b.sg_pos; show a.sg + 1 < a.sg + b.sg + 1; omega)
  rw [Nat.add_zero, Nat.zero_add] at h0
  rw [Nat.zero_add] at h1
  unfold env
  rw [show i + 1 + a.sg = i + (a.sg + 1) by omega, h0, h1]
  show (((a.envs (i + 1) e ++ b.envs (i + 1 + a.sg) e)[a.sg]?).getD []) = _
  rw [List.getElem?_append_right (by rw [envs_len]; exact Nat.le_refl _), envs_len, Nat.sub_self, envs_zero, envs_zero]
/-- each of those around is an "of" of this name, and around it are those behind it -/
def Chain (w : Wr) : List (Str × Nat) → Prop
  | [] => True
  | (x, j) :: e => (∃ b, w.subs[j]? = some (of x b)) ∧ w.env j = e ∧ Chain w e
theorem chain_env (w : Wr) : ∀ {i : Nat}, i < w.sg → Chain w (w.env i) := by
  intro i
  induction i using Nat.strongRecOn with
  | _ i ih =>
    intro hi
    by_cases h0 : i = 0
    · subst h0
      rw [env_zero]
      exact trivial
    obtain ⟨j, s, k, hj, hs, hk, rfl⟩ := has_par (w := w) (i := i) (by omega) hi
    have c := ih j hj (subs_lt hs)
    cases s with
    | nm z => exact absurd hk List.not_mem_nil
    | of x b =>
      rw [List.mem_singleton.mp hk, env_of hs]
      exact ⟨⟨b, hs⟩, rfl, c⟩
    | to a b =>
      rcases List.mem_cons.mp hk with rfl | hk
      · rw [env_one hs]; exact c
      · rw [List.mem_singleton.mp hk, ← Nat.add_assoc, env_two hs]; exact c
theorem env_lt (w : Wr) : ∀ {i : Nat}, i < w.sg → ∀ p ∈ w.env i, p.2 < i := by
  intro i
  induction i using Nat.strongRecOn with
  | _ i ih =>
    intro hi p hp
    by_cases h0 : i = 0
    · subst h0
      rw [env_zero] at hp
      exact absurd hp List.not_mem_nil
    obtain ⟨j, s, k, hj, hs, hk, rfl⟩ := has_par (w := w) (i := i) (by omega) hi
    have c := ih j hj (subs_lt hs)
    cases s with
    | nm z => exact absurd hk List.not_mem_nil
    | of x b =>
      rw [List.mem_singleton.mp hk, env_of hs] at hp
      rw [List.mem_singleton.mp hk]
      rcases List.mem_cons.mp hp with rfl | hp
      · exact Nat.lt_succ_self _
      · exact Nat.lt_succ_of_lt (c p hp)
    | to a b =>
      rcases List.mem_cons.mp hk with rfl | hk
      · rw [env_one hs] at hp; exact Nat.lt_succ_of_lt (c p hp)
      · rw [List.mem_singleton.mp hk, ← Nat.add_assoc, env_two hs] at hp; exact Nat.lt_of_lt_of_le (c p hp) (Nat.le_add_right _ _)
/-- which "of" binds this name -/
def find (z : Str) : List (Str × Nat) → Option Nat
  | [] => none
  | (x, j) :: e => if x = z then some j else find z e
/-- the "of" that binds what stands at i -/
def bnd (w : Wr) (i : Nat) : Option Nat := match w.subs[i]? with
  | some (nm z) => find z (w.env i)
  | _ => none
theorem find_none {z : Str} : ∀ {e : List (Str × Nat)}, find z e = none ↔ z ∉ e.map (·.1)
  | [] => by simp [find]
  | (x, j) :: e => by
    show (if x = z then some j else find z e) = none ↔ _
    by_cases c : x = z
    · rw [if_pos c]
      simp [c]
    · rw [if_neg c, find_none]
      simp [Ne.symm c, eq_comm]
/-- how far out it is -/
theorem find_depth {w : Wr} {z : Str} : ∀ {e : List (Str × Nat)} {j : Nat}, Chain w e → find z e = some j → (w.env j).length + (e.map (·.1)).idxOf z + 1 = e.length ∧ j < w.sg
  | [], j, _, h => nomatch h
  | (x, k) :: e, j, c, h => by
    have h : (if x = z then some k else find z e) = some j := h
    obtain ⟨⟨b, hb⟩, he, c'⟩ := c
    by_cases q : x = z
    · rw [if_pos q] at h
      cases h
      subst q
      rw [he]
      refine ⟨?_, subs_lt hb⟩
      show e.length + (x :: e.map (·.1)).idxOf x + 1 = e.length + 1
      rw [List.idxOf_cons_self]
    · rw [if_neg q] at h
      obtain ⟨d, hj⟩ := find_depth c' h
      refine ⟨?_, hj⟩
      show (w.env j).length + (x :: e.map (·.1)).idxOf z + 1 = e.length + 1
      rw [List.idxOf_cons, show (x == z) = false by simpa using q, cond_false]
      omega
/-- all its free names where they stand, these being bound around -/
def frL : Wr → List Str → List Str
  | nm z, ar => if z ∈ ar then [] else [z]
  | of x b, ar => b.frL (x :: ar)
  | to a b, ar => a.frL ar ++ b.frL ar
def ins (f : List Str) (z : Str) : List Str := if z ∈ f then f else f ++ [z]
theorem frL_mem : ∀ (w : Wr) {ar br : List Str}, (∀ z, z ∈ ar ↔ z ∈ br) → w.frL ar = w.frL br
  | nm z, ar, br, h => by
    show (if z ∈ ar then [] else [z]) = if z ∈ br then [] else [z]
    by_cases c : z ∈ ar
    · rw [if_pos c, if_pos ((h z).mp c)]
    · rw [if_neg c, if_neg fun k => c ((h z).mpr k)]
  | of x b, ar, br, h => frL_mem b fun z => by simp only [List.mem_cons, h z]
  | to a b, ar, br, h => by
    show a.frL ar ++ b.frL ar = a.frL br ++ b.frL br
    rw [frL_mem a h, frL_mem b h]
theorem fold_frL : ∀ (w : Wr) (ar f : List Str), (w.frL ar).foldl ins f = w.go ar f
  | nm z, ar, f => by
    show (if z ∈ ar then [] else [z]).foldl ins f = if z ∈ ar ++ f then f else f ++ [z]
    by_cases c : z ∈ ar
    · rw [if_pos c, if_pos (List.mem_append_left _ c)]
      rfl
    · rw [if_neg c]
      show ins f z = _
      unfold ins
      by_cases d : z ∈ f
      · rw [if_pos d, if_pos (List.mem_append_right _ d)]
      · rw [if_neg d, if_neg fun h => (List.mem_append.mp h).elim c d]
  | of x b, ar, f => by
    show (b.frL (x :: ar)).foldl ins f = b.go (ar ++ [x]) f
    rw [← fold_frL b, frL_mem b (br := ar ++ [x]) fun z => by simp [or_comm]]
  | to a b, ar, f => by
    show (a.frL ar ++ b.frL ar).foldl ins f = b.go ar (a.go ar f)
    rw [List.foldl_append, fold_frL a, fold_frL b]
/-- a sign with what is around: the name, if it stands there free -/
def freeAt : Wr × List (Str × Nat) → Option Str
  | (nm z, e) => if find z e = none then some z else none
  | _ => none
theorem free_zip : ∀ (w : Wr) (o : Nat) (e : List (Str × Nat)), (w.subs.zip (w.envs o e)).filterMap freeAt = w.frL (e.map (·.1))
  | nm z, o, e => by
    show ([(nm z, e)] : List _).filterMap freeAt = if z ∈ e.map (·.1) then [] else [z]
    by_cases c : z ∈ e.map (·.1)
    · rw [if_pos c]
      have : find z e ≠ none := fun h => (find_none.mp h) c
      simp [freeAt, this]
    · rw [if_neg c]
      have : find z e = none := find_none.mpr c
      simp [freeAt, this]
  | of x b, o, e => by
    show ((of x b, e) :: b.subs.zip (b.envs (o + 1) ((x, o) :: e))).filterMap freeAt = b.frL (x :: e.map (·.1))
    rw [List.filterMap_cons_none rfl, free_zip b]
    rfl
  | to a b, o, e => by
    show ((to a b, e) :: (a.subs ++ b.subs).zip (a.envs (o + 1) e ++ b.envs (o + 1 + a.sg) e)).filterMap freeAt = a.frL (e.map (·.1)) ++ b.frL (e.map (·.1))
    rw [List.filterMap_cons_none rfl, List.zip_append (by rw [subs_len, envs_len]), List.filterMap_append, free_zip a, free_zip b]
/-- the places of the free names -/
def frIx (w : Wr) : List Nat := (List.range w.sg).filter fun i => match w.subs[i]? with
  | some (nm z) => decide (find z (w.env i) = none)
  | _ => false
def nmAt (w : Wr) (i : Nat) : Str := match w.subs[i]? with
  | some (nm z) => z
  | some (of x _) => x
  | _ => ""
theorem frIx_names (w : Wr) : (w.frIx).map w.nmAt = w.frL [] := by
  have e := free_zip w 0 []
  rw [← show w.frL ([] : List (Str × Nat)).unzip.1 = w.frL [] from rfl]
  show _ = w.frL (([] : List (Str × Nat)).map (·.1))
  rw [← e]
  have key : ∀ k, k ≤ w.sg → (((List.range k).filter fun i => match w.subs[i]? with
      | some (nm z) => decide (find z (w.env i) = none)
      | _ => false).map w.nmAt) = ((w.subs.zip (w.envs 0 [])).take k).filterMap freeAt := by
    intro k
    induction k with
    | zero => intro _; rfl
    | succ k ih =>
      intro hk
      rw [List.range_succ, List.filter_append, List.map_append, ih (by omega), List.take_add_one, List.filterMap_append]
      congr 1
      have hs : w.subs[k]? = some (w.subs[k]'(by rw [subs_len]; omega)) := List.getElem?_eq_getElem _
      have he := env_eq (w := w) (i := k) (by omega)
      have hz : (w.subs.zip (w.envs 0 []))[k]? = some (w.subs[k]'(by rw [subs_len]; omega), w.env k) := by
        rw [List.getElem?_zip_eq_some]
        exact ⟨hs, he⟩
      rw [hz]
      generalize w.subs[k]'(by rw [subs_len]; omega) = s at hs
      show (([k] : List Nat).filter _).map _ = ([(s, w.env k)] : List _).filterMap freeAt
      cases s with
      | nm z =>
        by_cases c : find z (w.env k) = none
        · rw [List.filter_cons_of_pos (by simp [hs, c])]
          simp [nmAt, hs, freeAt, c]
        · rw [List.filter_cons_of_neg (by simp [hs, c])]
          simp [freeAt, c]
      | of x b =>
        rw [List.filter_cons_of_neg (by simp [hs])]
        rfl
      | to a b =>
        rw [List.filter_cons_of_neg (by simp [hs])]
        rfl
  have h := key w.sg (Nat.le_refl _)
  rw [List.take_of_length_le (by rw [List.length_zip, subs_len, envs_len]; omega)] at h
  exact h
/-- the names of the free ones, each once, as they are met -/
theorem frIx_fold (w : Wr) : (w.frIx.map w.nmAt).foldl ins [] = w.fr := by
  rw [frIx_names, fold_frL, go_nil]
end Wr
end TG
/-! codes of counted writings; what is put in, sign by sign -/
namespace TG
open PySem PySem.Spec L2
open PyProof.Rows hiding St
/-- a code: a text, or how far out the "of" is -/
abbrev Cd := Sum Str Nat
theorem not_of : okN ("of" : Str) = false := by decide +kernel
theorem not_to : okN ("to" : Str) = false := by decide +kernel
namespace Bt
def cd : Bt → List Cd
  | bd n => [.inr n]
  | fr z => [.inl z]
  | of b => .inl "of" :: b.cd
  | to a b => .inl "to" :: (a.cd ++ b.cd)
theorem cd_cut : ∀ {b c : Bt} {r t : List Cd}, b.all okN = true → c.all okN = true → b.cd ++ r = c.cd ++ t → b = c ∧ r = t
  | bd n, bd m, r, t, _, _, h => by cases h; exact ⟨rfl, rfl⟩
  | fr z, fr y, r, t, _, _, h => by cases h; exact ⟨rfl, rfl⟩
  | of b, of c, r, t, hb, hc, h => by
    injection h with _ h
    obtain ⟨e1, e2⟩ := cd_cut (b := b) (c := c) hb hc h
    exact ⟨congrArg of e1, e2⟩
  | to a b, to c d, r, t, hb, hc, h => by
    injection h with _ h
    have h : (a.cd ++ b.cd) ++ r = (c.cd ++ d.cd) ++ t := h
    rw [List.append_assoc, List.append_assoc] at h
    obtain ⟨e1, h⟩ := cd_cut (b := a) (c := c) (Bool.and_eq_true_iff.mp hb).1 (Bool.and_eq_true_iff.mp hc).1 h
    obtain ⟨e2, h⟩ := cd_cut (b := b) (c := d) (Bool.and_eq_true_iff.mp hb).2 (Bool.and_eq_true_iff.mp hc).2 h
    exact ⟨by rw [e1, e2], h⟩
  | bd n, fr z, _, _, _, _, h => by cases h
  | bd n, of _, _, _, _, _, h => by cases h
  | bd n, to _ _, _, _, _, _, h => by cases h
  | fr z, bd _, _, _, _, _, h => by cases h
  | of _, bd _, _, _, _, _, h => by cases h
  | to _ _, bd _, _, _, _, _, h => by cases h
  | fr z, of _, _, _, hb, _, h => by
    injection h with h _
    injection h with h
    subst h
    exact absurd (not_of.symm.trans hb) Bool.false_ne_true
  | fr z, to _ _, _, _, hb, _, h => by
    injection h with h _
    injection h with h
    subst h
    exact absurd (not_to.symm.trans hb) Bool.false_ne_true
  | of _, fr z, _, _, _, hb, h => by
    injection h with h _
    injection h with h
    subst h
    exact absurd (not_of.symm.trans hb) Bool.false_ne_true
  | to _ _, fr z, _, _, _, hb, h => by
    injection h with h _
    injection h with h
    subst h
    exact absurd (not_to.symm.trans hb) Bool.false_ne_true
  | of _, to _ _, _, _, _, _, h => by
    injection h with h _
    injection h with h
    exact absurd h (by decide +kernel)
  | to _ _, of _, _, _, _, _, h => by
    injection h with h _
    injection h with h
    exact absurd h (by decide +kernel)
theorem cd_inj {b c : Bt} (hb : b.all okN = true) (hc : c.all okN = true) (h : b.cd = c.cd) : b = c :=
  (cd_cut (r := []) (t := []) hb hc (by rw [List.append_nil, List.append_nil]; exact h)).1
end Bt
namespace Wr
/-- a sign's code, by what is around it -/
def codeAt : Wr × List (Str × Nat) → Cd
  | (nm z, e) => if z ∈ e.map (·.1) then .inr ((e.map (·.1)).idxOf z) else .inl z
  | (of _ _, _) => .inl "of"
  | (to _ _, _) => .inl "to"
theorem code_zip : ∀ (w : Wr) (o : Nat) (e : List (Str × Nat)), (w.subs.zip (w.envs o e)).map codeAt = (w.cnt (e.map (·.1))).cd
  | nm z, o, e => by
    show [codeAt (nm z, e)] = (if z ∈ e.map (·.1) then Bt.bd ((e.map (·.1)).idxOf z) else .fr z).cd
    unfold codeAt
    by_cases c : z ∈ e.map (·.1)
    · simp only [if_pos c]; rfl
    · simp only [if_neg c]; rfl
  | of x b, o, e => by
    show Sum.inl ("of" : Str) :: (b.subs.zip (b.envs (o + 1) ((x, o) :: e))).map codeAt = Sum.inl ("of" : Str) :: (b.cnt (x :: e.map (·.1))).cd
    rw [code_zip b]
    rfl
  | to a b, o, e => by
    show Sum.inl ("to" : Str) :: ((a.subs ++ b.subs).zip (a.envs (o + 1) e ++ b.envs (o + 1 + a.sg) e)).map codeAt = Sum.inl ("to" : Str) :: ((a.cnt (e.map (·.1))).cd ++ (b.cnt (e.map (·.1))).cd)
    rw [List.zip_append (by rw [subs_len, envs_len]), List.map_append, code_zip a, code_zip b]
theorem code_list (w : Wr) (xs : List Cd) (hl : xs.length = w.sg) (h : ∀ i s, w.subs[i]? = some s → xs[i]? = some (codeAt (s, w.env i))) : xs = (w.cnt []).cd := by
  have e := code_zip w 0 []
  show xs = (w.cnt (([] : List (Str × Nat)).map (·.1))).cd
  rw [← e]
  refine List.ext_getElem? fun i => ?_
  rw [List.getElem?_map]
  by_cases c : i < w.sg
  · have hs : w.subs[i]? = some (w.subs[i]'(by rw [subs_len]; exact c)) := List.getElem?_eq_getElem _
    rw [h i _ hs]
    have hz : (w.subs.zip (w.envs 0 []))[i]? = some (w.subs[i]'(by rw [subs_len]; exact c), w.env i) := by
      rw [List.getElem?_zip_eq_some]
      exact ⟨hs, env_eq c⟩
    rw [hz]
    rfl
  · rw [List.getElem?_eq_none (by omega), List.getElem?_eq_none (by rw [List.length_zip, subs_len, envs_len]; omega)]
    rfl
/-- the depths of a row, in its order -/
def deps : Wr → Nat → List Nat
  | nm _, d => [d]
  | of _ b, d => d :: b.deps (d + 1)
  | to a b, d => d :: (a.deps d ++ b.deps d)
theorem deps_envs : ∀ (w : Wr) (o : Nat) (e : List (Str × Nat)), (w.envs o e).map List.length = w.deps e.length
  | nm _, _, _ => rfl
  | of x b, o, e => by
    show e.length :: (b.envs (o + 1) ((x, o) :: e)).map List.length = e.length :: b.deps (e.length + 1)
    rw [deps_envs b]
    rfl
  | to a b, o, e => by
    show e.length :: (a.envs (o + 1) e ++ b.envs (o + 1 + a.sg) e).map List.length = e.length :: (a.deps e.length ++ b.deps e.length)
    rw [List.map_append, deps_envs a, deps_envs b]
theorem deps_at {w : Wr} {i : Nat} (h : i < w.sg) : (w.deps 0)[i]? = some (w.env i).length := by
  have e := deps_envs w 0 []
  rw [show w.deps 0 = w.deps ([] : List (Str × Nat)).length from rfl, ← e, List.getElem?_map, env_eq h]
  rfl
theorem deps_len (w : Wr) (d : Nat) : (w.deps d).length = w.sg := by
  induction w generalizing d with
  | nm _ => rfl
  | of _ b ih => show (b.deps _).length + 1 = _; rw [ih]; rfl
  | to a b i1 i2 => show (a.deps _ ++ b.deps _).length + 1 = _; rw [List.length_append, i1, i2]; rfl
/-! ### other names for some of the "of"s, and a writing in the place of a free name -/
def nu (ρ : Nat → Option Str) (j : Nat) (x : Str) : Str := (ρ j).getD x
def ren (ρ : Nat → Option Str) (nam : Str) (t : Wr) : Wr → Nat → List (Str × Nat) → Wr
  | nm z, _, e => match find z e with
    | none => if z = nam then t else nm z
    | some j => nm (nu ρ j z)
  | of x b, o, e => of (nu ρ o x) (ren ρ nam t b (o + 1) ((x, o) :: e))
  | to a b, o, e => to (ren ρ nam t a (o + 1) e) (ren ρ nam t b (o + 1 + a.sg) e)
/-- all names that stand in it, of "of"s too -/
def nms : Wr → List Str
  | nm z => [z]
  | of x b => x :: b.nms
  | to a b => a.nms ++ b.nms
theorem fr_nms : ∀ {w : Wr} {z : Str}, z ∈ w.fr → z ∈ w.nms
  | nm z, y, h => h
  | of x b, y, h => List.mem_cons_of_mem _ (fr_nms (List.mem_filter.mp h).1)
  | to a b, y, h => by
    rcases List.mem_append.mp h with h | h
    · exact List.mem_append_left _ (fr_nms h)
    · exact List.mem_append_right _ (fr_nms (List.mem_filter.mp h).1)
theorem cnt_closed : ∀ (w : Wr) (ar br : List Str), (∀ z ∈ w.fr, z ∉ br) → w.cnt (ar ++ br) = w.cnt ar
  | nm z, ar, br, h => by
    have hz := h z (List.mem_singleton_self z)
    show (if z ∈ ar ++ br then Bt.bd ((ar ++ br).idxOf z) else .fr z) = if z ∈ ar then Bt.bd (ar.idxOf z) else .fr z
    by_cases c : z ∈ ar
    · rw [if_pos c, if_pos (List.mem_append_left _ c), List.idxOf_append, if_pos c]
    · rw [if_neg c, if_neg fun k => (List.mem_append.mp k).elim c hz]
  | of x b, ar, br, h => by
    show Bt.of (b.cnt (x :: (ar ++ br))) = Bt.of (b.cnt (x :: ar))
    congr 1
    by_cases c : x ∈ br
    · -- a name of br that is x: x stands ahead of it anyway
      have key : ∀ (w : Wr) (pre ar br : List Str), (∀ z ∈ w.fr, z ∈ br → z ∈ pre) → w.cnt (pre ++ ar ++ br) = w.cnt (pre ++ ar) := by
        intro w
        induction w with
        | nm z =>
          intro pre ar br h
          have hz := h z (List.mem_singleton_self z)
          show (if z ∈ pre ++ ar ++ br then Bt.bd ((pre ++ ar ++ br).idxOf z) else .fr z) = if z ∈ pre ++ ar then Bt.bd ((pre ++ ar).idxOf z) else .fr z
          by_cases c : z ∈ pre ++ ar
          · rw [if_pos c, if_pos (List.mem_append_left _ c), List.idxOf_append, if_pos c]
          · rw [if_neg c, if_neg fun k => (List.mem_append.mp k).elim c fun q => c (List.mem_append_left _ (hz q))]
        | of y d ih =>
          intro pre ar br h
          show Bt.of (d.cnt (y :: (pre ++ ar ++ br))) = Bt.of (d.cnt (y :: (pre ++ ar)))
          congr 1
          refine ih (y :: pre) ar br fun z hz hb => ?_
          by_cases q : z = y
          · exact List.mem_cons.mpr (.inl q)
          · exact List.mem_cons_of_mem _ (h z (List.mem_filter.mpr ⟨hz, decide_eq_true q⟩) hb)
        | to a b i1 i2 =>
          intro pre ar br h
          show Bt.to _ _ = Bt.to _ _
          congr 1
          · exact i1 pre ar br fun z hz hb => h z (List.mem_append_left _ hz) hb
          · refine i2 pre ar br fun z hz hb => ?_
            by_cases q : z ∈ a.fr
            · exact h z (List.mem_append_left _ q) hb
            · exact h z (List.mem_append_right _ (List.mem_filter.mpr ⟨hz, decide_eq_true q⟩)) hb
      refine key b [x] ar br fun z hz hb => ?_
      by_cases q : z = x
      · exact List.mem_singleton.mpr q
      · exact absurd hb (h z (List.mem_filter.mpr ⟨hz, decide_eq_true q⟩))
    · refine cnt_closed b (x :: ar) br fun z hz hb => ?_
      by_cases q : z = x
      · exact c (q ▸ hb)
      · exact h z (List.mem_filter.mpr ⟨hz, decide_eq_true q⟩) hb
  | to a b, ar, br, h => by
    show Bt.to _ _ = Bt.to _ _
    rw [cnt_closed a ar br fun z hz => h z (List.mem_append_left _ hz), cnt_closed b ar br fun z hz => ?_]
    by_cases q : z ∈ a.fr
    · exact h z (List.mem_append_left _ q)
    · exact h z (List.mem_append_right _ (List.mem_filter.mpr ⟨hz, decide_eq_true q⟩))
/-- the names of those around, as they are told anew -/
def nue (ρ : Nat → Option Str) (e : List (Str × Nat)) : List Str := e.map fun p => nu ρ p.2 p.1
/-- ρ gives new names: unlike ones, that stand nowhere in these -/
structure New (ρ : Nat → Option Str) (ns : List Str) : Prop where
  out : ∀ j y, ρ j = some y → y ∉ ns
  inj : ∀ j k y, ρ j = some y → ρ k = some y → j = k
theorem find_mem {z : Str} : ∀ {e : List (Str × Nat)} {j : Nat}, find z e = some j → j ∈ e.map (·.2)
  | [], _, h => nomatch h
  | (x, k) :: e, j, h => by
    have h : (if x = z then some k else find z e) = some j := h
    by_cases c : x = z
    · rw [if_pos c] at h; cases h; exact List.mem_cons_self
    · rw [if_neg c] at h; exact List.mem_cons_of_mem _ (find_mem h)
theorem nue_find {ρ : Nat → Option Str} {ns : List Str} (N : New ρ ns) {z : Str} (hz : z ∈ ns) : ∀ {e : List (Str × Nat)}, (e.map (·.2)).Nodup → (∀ p ∈ e, p.1 ∈ ns) →
    (find z e = none → z ∉ nue ρ e) ∧ ∀ j, find z e = some j → nu ρ j z ∈ nue ρ e ∧ (nue ρ e).idxOf (nu ρ j z) = (e.map (·.1)).idxOf z
  | [], _, _ => ⟨fun _ => List.not_mem_nil, fun j h => nomatch h⟩
  | (x, k) :: e, hd, hn => by
    have hd2 := List.nodup_cons.mp (show (k :: e.map (·.2)).Nodup from hd)
    obtain ⟨i1, i2⟩ := nue_find N hz hd2.2 fun p hp => hn p (List.mem_cons_of_mem _ hp)
    have hx : x ∈ ns := hn _ List.mem_cons_self
    by_cases c : x = z
    · subst c
      have f : find x ((x, k) :: e) = some k := if_pos rfl
      refine ⟨fun h => absurd (f.symm.trans h) (fun q => nomatch q), fun j h => ?_⟩
      rw [f] at h
      cases h
      refine ⟨List.mem_cons_self, ?_⟩
      show (nu ρ k x :: nue ρ e).idxOf (nu ρ k x) = (x :: e.map (·.1)).idxOf x
      rw [List.idxOf_cons_self, List.idxOf_cons_self]
    · have f : find z ((x, k) :: e) = find z e := if_neg c
      have nz : nu ρ k x ≠ z := by
        unfold nu
        cases q : ρ k with
        | none => exact c
        | some y => exact fun h => N.out k y q ((show y = z from h) ▸ hz)
      refine ⟨fun h => ?_, fun j h => ?_⟩
      · rw [f] at h
        intro hm
        rcases List.mem_cons.mp hm with hm | hm
        · exact nz hm.symm
        · exact i1 h hm
      · rw [f] at h
        obtain ⟨m, d⟩ := i2 j h
        have ne : nu ρ k x ≠ nu ρ j z := by
          intro h2
          have hjk : j ≠ k := fun h3 => hd2.1 (h3 ▸ find_mem h)
          unfold nu at h2
          cases q : ρ k with
          | none =>
            rw [q] at h2
            cases q2 : ρ j with
            | none => rw [q2] at h2; exact c h2
            | some y => rw [q2] at h2; exact N.out j y q2 ((show x = y from h2) ▸ hx)
          | some y =>
            rw [q] at h2
            cases q2 : ρ j with
            | none => rw [q2] at h2; exact N.out k y q ((show y = z from h2) ▸ hz)
            | some y2 =>
              rw [q2] at h2
              have h2 : y = y2 := h2
              exact hjk (N.inj j k y2 q2 (h2 ▸ q))
        refine ⟨List.mem_cons_of_mem _ m, ?_⟩
        show (nu ρ k x :: nue ρ e).idxOf (nu ρ j z) = (x :: e.map (·.1)).idxOf z
        rw [List.idxOf_cons, List.idxOf_cons, show (nu ρ k x == nu ρ j z) = false by simpa using ne, show (x == z) = false by simpa using c, cond_false, cond_false, d]
/-- what is told so is, counted outwards, what is put in -/
theorem ren_cnt {ρ : Nat → Option Str} {ns : List Str} (N : New ρ ns) {nam : Str} {t : Wr} (hn : nam ∈ ns) : ∀ (w : Wr) (o : Nat) (e : List (Str × Nat)), (∀ z ∈ w.nms, z ∈ ns) → (e.map (·.2)).Nodup → (∀ p ∈ e, p.1 ∈ ns ∧ p.2 < o) →
    (∀ z, nam ∈ w.frL (e.map (·.1)) → z ∈ t.fr → z ∉ nue ρ e) →
    (∀ i x b l, w.subs[i]? = some (of x b) → (w.envs o e)[i]? = some l → nam ∈ b.frL (x :: l.map (·.1)) → nu ρ (o + i) x ∉ t.fr) →
    (ren ρ nam t w o e).cnt (nue ρ e) = (w.cnt (e.map (·.1))).sub nam (t.cnt [])
  | nm z, o, e, hw, hd, he, h1, h2 => by
    have hz := hw z (List.mem_singleton_self z)
    obtain ⟨k1, k2⟩ := nue_find N hz hd fun p hp => (he p hp).1
    show (match find z e with | none => if z = nam then t else nm z | some j => nm (nu ρ j z)).cnt (nue ρ e) = (if z ∈ e.map (·.1) then Bt.bd ((e.map (·.1)).idxOf z) else .fr z).sub nam (t.cnt [])
    cases q : find z e with
    | none =>
      have q2 := find_none.mp q
      rw [if_neg q2]
      show (if z = nam then t else nm z).cnt (nue ρ e) = if z = nam then t.cnt [] else .fr z
      by_cases c : z = nam
      · rw [if_pos c, if_pos c]
        have hm : nam ∈ (nm z).frL (e.map (·.1)) := by
          show nam ∈ if z ∈ e.map (·.1) then [] else [z]
          rw [if_neg q2, c]
          exact List.mem_singleton_self _
        exact cnt_closed t [] (nue ρ e) fun y hy => h1 y hm hy
      · rw [if_neg c, if_neg c]
        exact if_neg (k1 q)
    | some j =>
      obtain ⟨m, d⟩ := k2 j q
      have q2 : z ∈ e.map (·.1) := by
        by_cases c : z ∈ e.map (·.1)
        · exact c
        · rw [find_none.mpr c] at q; cases q
      rw [if_pos q2]
      show (if nu ρ j z ∈ nue ρ e then Bt.bd ((nue ρ e).idxOf (nu ρ j z)) else _) = Bt.bd _
      rw [if_pos m, d]
  | of x b, o, e, hw, hd, he, h1, h2 => by
    show Bt.of ((ren ρ nam t b (o + 1) ((x, o) :: e)).cnt (nue ρ ((x, o) :: e))) = Bt.of ((b.cnt (((x, o) :: e).map (·.1))).sub nam (t.cnt []))
    congr 1
    refine ren_cnt N hn b (o + 1) ((x, o) :: e) (fun z hz => hw z (List.mem_cons_of_mem _ hz)) ?_ ?_ ?_ ?_
    · refine List.nodup_cons.mpr ⟨fun hm => ?_, hd⟩
      obtain ⟨p, hp, ep⟩ := List.mem_map.mp hm
      have h3 := (he p hp).2
      have h4 : p.2 = o := ep
      omega
    · intro p hp
      rcases List.mem_cons.mp hp with rfl | hp
      · exact ⟨hw x List.mem_cons_self, Nat.lt_succ_self _⟩
      · exact ⟨(he p hp).1, Nat.lt_succ_of_lt (he p hp).2⟩
    · intro z hz ht hm
      have hz : nam ∈ b.frL (x :: e.map (·.1)) := hz
      rcases List.mem_cons.mp hm with hm | hm
      · have := h2 0 x b e rfl rfl hz
        rw [Nat.add_zero] at this
        exact this ((show z = nu ρ o x from hm) ▸ ht)
      · exact h1 z hz ht hm
    · intro i y c l hi hl hu
      rw [show o + 1 + i = o + (i + 1) by omega]
      exact h2 (i + 1) y c l hi hl hu
  | to a b, o, e, hw, hd, he, h1, h2 => by
    show Bt.to _ _ = Bt.to _ _
    congr 1
    · refine ren_cnt N hn a (o + 1) e (fun z hz => hw z (List.mem_append_left _ hz)) hd (fun p hp => ⟨(he p hp).1, Nat.lt_succ_of_lt (he p hp).2⟩) (fun z hz => h1 z (List.mem_append_left _ hz)) ?_
      intro i y c l hi hl hu
      rw [show o + 1 + i = o + (i + 1) by omega]
      have f := subs_lt hi
      refine h2 (i + 1) y c l ?_ ?_ hu
      · show (a.subs ++ b.subs)[i]? = _
        rw [List.getElem?_append_left (by rw [subs_len]; exact f)]
        exact hi
      · show (a.envs (o + 1) e ++ b.envs (o + 1 + a.sg) e)[i]? = _
        rw [List.getElem?_append_left (by rw [envs_len]; exact f)]
        exact hl
    · refine ren_cnt N hn b (o + 1 + a.sg) e (fun z hz => hw z (List.mem_append_right _ hz)) hd (fun p hp => ⟨(he p hp).1, by have := (he p hp).2; omega⟩) (fun z hz => h1 z (List.mem_append_right _ hz)) ?_
      intro i y c l hi hl hu
      rw [show o + 1 + a.sg + i = o + (a.sg + i + 1) by omega]
      refine h2 (a.sg + i + 1) y c l ?_ ?_ hu
      · show (a.subs ++ b.subs)[a.sg + i]? = _
        rw [List.getElem?_append_right (by rw [subs_len]; omega), subs_len, Nat.add_sub_cancel_left]
        exact hi
      · show (a.envs (o + 1) e ++ b.envs (o + 1 + a.sg) e)[a.sg + i]? = _
        rw [List.getElem?_append_right (by rw [envs_len]; omega), envs_len, Nat.add_sub_cancel_left]
        exact hl
end Wr
end TG
/-! the package's small defs: what they promise, wherever they stand -/
namespace TG
open PySem PySem.Spec L2
open PyProof.Rows hiding St
/-! ### values by their types -/
def tyN : List String := ["NoneType", "bool", "int", "str", "list", "tuple", "dict"]
def HasTy (K : PySem.W.Frag) (H : Hp) (v : V) (n : String) : Prop := TyX K H v (.type n) ∧ n ∈ tyN
theorem rd_lst {H H' : Hp} (s : Same H H') {a : Addr} {o : HO} (h : H a = some o) : H' a = some o := s _ _ h
theorem tyx_same {K : PySem.W.Frag} {H H' : Hp} {v : V} {t : Value} (h : TyX K H v t) (s : Same H H') : TyX K H' v t := by
  cases h with
  | base b =>
    cases b with
    | non => exact .base .non
    | bl x => exact .base (.bl x)
    | int i => exact .base (.int i)
    | str x => exact .base (.str x)
    | flt x => exact .base (.flt x)
    | lst e => exact .base (.lst (s _ _ e))
    | frz e => exact .base (.frz (s _ _ e))
    | tup e => exact .base (.tup (s _ _ e))
    | dK e => exact .base (.dK (s _ _ e))
    | dT e => exact .base (.dT (s _ _ e))
    | ins e cl ha hn htk hm => exact .base (.ins (s _ _ e) cl ha hn htk hm)
  | byt b => exact .byt b
  | set e => exact .set (s _ _ e)
  | kList e c => exact .kList e c
  | kTuple e c => exact .kTuple e c
  | kDict e c => exact .kDict e c
  | fTuple e => exact .fTuple (s _ _ e)
  | fDict e => exact .fDict (s _ _ e)
theorem HasTy.same {K : PySem.W.Frag} {H H' : Hp} {v : V} {n : String} (h : HasTy K H v n) (s : Same H H') : HasTy K H' v n := ⟨tyx_same h.1 s, h.2⟩
theorem HasTy.int {K : PySem.W.Frag} {H : Hp} (i : Int) : HasTy K H (.int i) "int" := ⟨.base (.int i), by decide⟩
theorem HasTy.str {K : PySem.W.Frag} {H : Hp} (z : Str) : HasTy K H (.str z) "str" := ⟨.base (.str z), by decide⟩
theorem HasTy.non {K : PySem.W.Frag} {H : Hp} : HasTy K H .non "NoneType" := ⟨.base .non, by decide⟩
theorem HasTy.bl {K : PySem.W.Frag} {H : Hp} (b : Bool) : HasTy K H (.bl b) "bool" := ⟨.base (.bl b), by decide⟩
theorem HasTy.lst {K : PySem.W.Frag} {H : Hp} {a : Addr} {xs : List V} (e : H a = some (.lst xs)) : HasTy K H (.ref a) "list" := ⟨.base (.lst e), by decide⟩
theorem HasTy.tup {K : PySem.W.Frag} {H : Hp} {a : Addr} {xs : List V} (e : H a = some (.tup xs)) : HasTy K H (.ref a) "tuple" := ⟨.base (.tup e), by decide⟩
theorem HasTy.dct {K : PySem.W.Frag} {H : Hp} {a : Addr} {kvs : List (Key × V)} (e : H a = some (.dK kvs)) : HasTy K H (.ref a) "dict" := ⟨.base (.dK e), by decide⟩
def intV : V → Bool
  | .int _ => true
  | _ => false
def strV : V → Bool
  | .str _ => true
  | _ => false
theorem HasTy.isInt {K : PySem.W.Frag} {H : Hp} {v : V} {n : String} (h : HasTy K H v n) : (n == "int") = intV v := by
  obtain ⟨h, _⟩ := h
  generalize e : Value.type n = t at h
  cases h with
  | base b => cases b <;> first | (cases e; rfl) | cases e
  | _ => first | (cases e; rfl) | cases e
theorem HasTy.isStr {K : PySem.W.Frag} {H : Hp} {v : V} {n : String} (h : HasTy K H v n) : (n == "str") = strV v := by
  obtain ⟨h, _⟩ := h
  generalize e : Value.type n = t at h
  cases h with
  | base b => cases b <;> first | (cases e; rfl) | cases e
  | _ => first | (cases e; rfl) | cases e
theorem kit_all {c : String} {g : String → Bool} (h : tyN.all (fun n => kitB n c == some (g n)) = true) {K : PySem.W.Frag} {n : String} (hn : n ∈ tyN) : PySem.W.kitOne K (.type n) (.type c) = some (g n) :=
  kit_ty (eq_of_beq (List.all_eq_true.mp h n hn))
theorem kit_int {K : PySem.W.Frag} {n : String} (hn : n ∈ tyN) : PySem.W.kitOne K (.type n) (.type "int") = some (n == "int" || n == "bool") := kit_all (g := fun n => n == "int" || n == "bool") (by decide +kernel) hn
theorem kit_bool {K : PySem.W.Frag} {n : String} (hn : n ∈ tyN) : PySem.W.kitOne K (.type n) (.type "bool") = some (n == "bool") := kit_all (g := fun n => n == "bool") (by decide +kernel) hn
theorem kit_str {K : PySem.W.Frag} {n : String} (hn : n ∈ tyN) : PySem.W.kitOne K (.type n) (.type "str") = some (n == "str") := kit_all (g := fun n => n == "str") (by decide +kernel) hn
theorem kit_list {K : PySem.W.Frag} {n : String} (hn : n ∈ tyN) : PySem.W.kitOne K (.type n) (.type "list") = some (n == "list") := kit_all (g := fun n => n == "list") (by decide +kernel) hn
theorem kit_tuple {K : PySem.W.Frag} {n : String} (hn : n ∈ tyN) : PySem.W.kitOne K (.type n) (.type "tuple") = some (n == "tuple") := kit_all (g := fun n => n == "tuple") (by decide +kernel) hn
def loB (i : Int) : V → Bool
  | .int a => decide (a ≤ i)
  | _ => true
def hiB (i : Int) : V → Bool
  | .int b => decide (i ≤ b)
  | _ => true
def withinV : V → V → V → Bool
  | .int i, lo, hi => loB i lo && hiB i hi
  | _, _, _ => false
def OptI (v : V) : Prop := v = .non ∨ ∃ i, v = .int i
def spIsInt (K : PySem.W.Frag) : Sp := fun vs H Q _ => ∃ (v : V) (n : String), vs = [v] ∧ HasTy K H v n ∧ Q (.bl (intV v)) H
def spWithin (K : PySem.W.Frag) : Sp := fun vs H Q _ => ∃ (v lo hi : V) (n : String), vs = [v, lo, hi] ∧ HasTy K H v n ∧ OptI lo ∧ OptI hi ∧ Q (.bl (withinV v lo hi)) H
theorem kit_lt {K : PySem.W.Frag} {n : String} (hn : n ∈ tyN) : PySem.W.kitAny K (.type n) [.type "list", .type "tuple"] = some (n == "list" || n == "tuple") := by
  by_cases e : n = "list"
  · subst e
    exact kitAny_cons (b := true) (kit_list hn) (fun z => nomatch z) (fun _ => rfl)
  · have h1 : (n == "list") = false := by simpa using e
    refine kitAny_cons (b := false) (by rw [kit_list hn, h1]) (fun _ => ?_) (fun z => nomatch z)
    rw [h1, Bool.false_or]
    by_cases e2 : n = "tuple"
    · subst e2
      exact kitAny_cons (b := true) (kit_tuple hn) (fun z => nomatch z) (fun _ => rfl)
    · have h2 : (n == "tuple") = false := by simpa using e2
      exact kitAny_cons (b := false) (by rw [kit_tuple hn, h2]) (fun _ => by rw [h2]; exact kitAny_nil) (fun z => nomatch z)
def numV (v : V) : Bool := withinV v (.int 0) .non
def spNums (K : PySem.W.Frag) : Sp := fun vs H Q _ => ∃ (v : V) (n : String), vs = [v] ∧ HasTy K H v n ∧
  ((n ≠ "list" ∧ n ≠ "tuple" ∧ ∀ H', Same H H' → Q (.bl false) H') ∨
   ∃ (a : Addr) (xs : List V), v = .ref a ∧ ((n = "list" ∧ H a = some (.lst xs)) ∨ (n = "tuple" ∧ H a = some (.tup xs))) ∧ (∀ x ∈ xs, ∃ m, HasTy K H x m) ∧ xs.length ≤ 1000 ∧ ∀ H', Same H H' → Q (.bl (xs.all numV)) H')
def letC (c : Nat) : Bool := decide (c ∈ ("abcdefghijklmnopqrstuvwxyz" : Str).cps.toList)
def digC (c : Nat) : Bool := decide (c ∈ ("0123456789" : Str).cps.toList)
def headC : List Nat → Bool
  | c :: _ => letC c
  | [] => false
def nameB (z : Str) : Bool := !inV (.str z) [.str "of", .str "to"] && (withinV (.int (z.length : Int)) (.int 1) (.int 12) && (headC z.cps.toList && z.cps.toList.all fun c => letC c || digC c))
def nameV : V → Bool
  | .str z => nameB z
  | _ => false
def spName (K : PySem.W.Frag) : Sp := fun vs H Q _ => ∃ (v : V) (n : String), vs = [v] ∧ HasTy K H v n ∧ (∀ z, v = .str z → z.length ≤ 1000) ∧ ∀ H', Same H H' → Q (.bl (nameV v)) H'

theorem letC_eq (c : Nat) : letC c = decide (97 ≤ c ∧ c ≤ 122) := by
  unfold letC
  rw [show ("abcdefghijklmnopqrstuvwxyz" : Str).cps.toList = List.range' 97 26 from by decide +kernel]
  refine decide_eq_decide.mpr ?_
  rw [List.mem_range'_1]
  omega
theorem digC_eq (c : Nat) : digC c = decide (48 ≤ c ∧ c ≤ 57) := by
  unfold digC
  rw [show ("0123456789" : Str).cps.toList = List.range' 48 10 from by decide +kernel]
  refine decide_eq_decide.mpr ?_
  rw [List.mem_range'_1]
  omega
theorem nameB_ok (z : Str) : nameB z = okN z := by
  have e1 : (!inV (.str z) [.str "of", .str "to"]) = (decide (z ≠ "of") && decide (z ≠ "to")) := by
    rw [show ([V.str "of", V.str "to"] : List V) = (["of", "to"] : List Str).map V.str from rfl, inV_strs]
    rw [Bool.eq_iff_iff]
    simp
  have e2 : withinV (.int (z.length : Int)) (.int 1) (.int 12) = (decide (1 ≤ z.length) && decide (z.length ≤ 12)) := by
    show (decide ((1 : Int) ≤ (z.length : Int)) && decide ((z.length : Int) ≤ 12)) = _
    rw [Bool.eq_iff_iff]
    simp only [Bool.and_eq_true, decide_eq_true_eq]
    omega
  have e3 : (headC z.cps.toList && z.cps.toList.all fun c => letC c || digC c) = (match z.cps.toList with
      | [] => false
      | c :: r => decide (97 ≤ c ∧ c ≤ 122) && r.all fun c => decide (97 ≤ c ∧ c ≤ 122) || decide (48 ≤ c ∧ c ≤ 57)) := by
    cases z.cps.toList with
    | nil => rfl
    | cons c r =>
      show (letC c && ((letC c || digC c) && r.all fun c => letC c || digC c)) = (decide (97 ≤ c ∧ c ≤ 122) && r.all fun c => decide (97 ≤ c ∧ c ≤ 122) || decide (48 ≤ c ∧ c ≤ 57))
      rw [show (fun c => letC c || digC c) = fun c => decide (97 ≤ c ∧ c ≤ 122) || decide (48 ≤ c ∧ c ≤ 57) from funext fun c => by rw [letC_eq, digC_eq], letC_eq]
      cases decide (97 ≤ c ∧ c ≤ 122) <;> simp
  unfold nameB okN
  rw [e1, e2, e3, Bool.and_assoc, Bool.and_assoc, Bool.and_assoc, Bool.and_assoc, Bool.and_assoc]
  all_goals rfl
theorem HasTy.sqL {K : PySem.W.Frag} {H : Hp} {a : Addr} {xs : List V} (h : SqL K H a xs) : HasTy K H (.ref a) "list" := by
  rcases h with (e | ⟨o, e⟩) | ⟨o, its, n, h1, h2, _⟩
  · exact .lst e
  · exact ⟨.base (.frz e), by decide⟩
  · exact ⟨.kList h1 h2, by decide⟩
theorem HasTy.sqT {K : PySem.W.Frag} {H : Hp} {a : Addr} {xs : List V} (h : SqT K H a xs) : HasTy K H (.ref a) "tuple" := by
  rcases h with (e | ⟨o, e⟩) | ⟨o, its, n, h1, h2, _⟩
  · exact .tup e
  · exact ⟨.fTuple e, by decide⟩
  · exact ⟨.kTuple h1 h2, by decide⟩
/-- a value that is data has a type -/
def tyD : PyData → String
  | .none => "NoneType"
  | .bool _ => "bool"
  | .int _ => "int"
  | .str _ => "str"
  | .list _ => "list"
  | .tuple _ => "tuple"
  | .dict _ => "dict"
theorem HasTy.dp {K : PySem.W.Frag} {H : Hp} {v : V} {d : PyData} (h : Dp K H v d) : HasTy K H v (tyD d) := by
  cases h with
  | non => exact .non
  | bl b => exact .bl b
  | int i => exact .int i
  | str z => exact .str z
  | lst h _ => exact .sqL h
  | tup h _ => exact .sqT h
theorem sqL_same {K : PySem.W.Frag} {H H' : Hp} {a : Addr} {xs : List V} (h : SqL K H a xs) (s : Same H H') : SqL K H' a xs := by
  rcases h with h | h
  · rcases h with h | ⟨o, h⟩
    · exact .inl (.inl (s _ _ h))
    · exact .inl (.inr ⟨o, s _ _ h⟩)
  · exact .inr h
mutual
theorem dp_same {K : PySem.W.Frag} {H H' : Hp} (s : Same H H') : ∀ {d : PyData} {v : V}, Dp K H v d → Dp K H' v d
  | _, _, .non => .non
  | _, _, .bl b => .bl b
  | _, _, .int i => .int i
  | _, _, .str z => .str z
  | _, _, .lst h t => .lst (sqL_same h s) (dpAll_same s t)
  | _, _, .tup h t => .tup (sqT_same h s) (dpAll_same s t)
theorem dpAll_same {K : PySem.W.Frag} {H H' : Hp} (s : Same H H') : ∀ {ds : List PyData} {vs : List V}, DpAll K H vs ds → DpAll K H' vs ds
  | _, _, .nil => .nil
  | _, _, .cons h t => .cons (dp_same s h) (dpAll_same s t)
end
/-- the constants of the checks, as the top leaves them -/
structure Cn (K : PySem.W.Frag) (mg : Str → Option Value) : Prop where
  lets : ∃ t, mg "LETTERS" = some (.str "abcdefghijklmnopqrstuvwxyz" t)
  digs : ∃ t, mg "DIGITS" = some (.str "0123456789" t)
  long : ∃ t, mg "LONGEST_NAME" = some (.int 12 t)
  nons : ∃ a, mg "NO_NAMES" = some (.ref a) ∧ ∀ H, SqT K H a [.str "of", .str "to"]
/-- the words of the layouts -/
structure Lw (mg : Str → Option Value) : Prop where
  of_ : ∃ t, mg "OF" = some (.str "of" t)
  to_ : ∃ t, mg "TO" = some (.str "to" t)
  nm_ : ∃ t, mg "NAME" = some (.str "name" t)
/-- how many parts stand behind a word -/
structure Pw (K : PySem.W.Frag) (w : World) (mg : Str → Option Value) : Prop where
  at_ : ∃ a, mg "PARTS" = some (.ref a) ∧ KDic K w a ∧ (∃ t, PySem.W.nsIn K a "of" = some (some (.int 1 t))) ∧ (∃ t, PySem.W.nsIn K a "to" = some (some (.int 2 t))) ∧ (∃ t, PySem.W.nsIn K a ">" = some (some (.int 2 t))) ∧ PySem.W.nsIn K a "name" = some none
/-- the class of the layouts, as the top leaves it -/
structure LayC (K : PySem.W.Frag) (mg : Str → Option Value) (C fI : Addr) : Prop where
  cl : Cls K C
  nS : NoAttr K C "signs"
  nE : NoAttr K C "ends"
  nB : NoAttr K C "below"
  nA : NoAttr K C "around"
  nI : NoAttr K C "binders"
  mgC : mg "Layout" = some (.ref C)
  mk_ : Mk K C fI
end TG
namespace TF07
open PySem PySem.Spec L2 TG TA
open PyProof.Rows hiding St
abbrev sInt : Stmt := top 5
abbrev sWithin : Stmt := top 6
abbrev sName : Stmt := top 7
theorem scInt : FnScope ["value"] ["value"] (defScope sInt) := ⟨rfl, rfl, rfl, by decide +kernel, rfl, by decide +kernel, by decide +kernel⟩
theorem scWithin : FnScope ["value", "least", "most"] ["value", "least", "most"] (defScope sWithin) := ⟨rfl, rfl, rfl, by decide +kernel, rfl, by decide +kernel, by decide +kernel⟩
theorem scName : FnScope ["value", "sign"] ["value"] (defScope sName) := ⟨rfl, rfl, rfl, by decide +kernel, rfl, by decide +kernel, by decide +kernel⟩
section
variable {P : Program} {w : World} {K : PySem.W.Frag} {mg : Str → Option Value} {base : Heap} {f f1 f2 f3 : Addr} {fd fd1 fd2 fd3 : FuncData}
theorem ok_isint (F : Fun K "is_integer" "is_integer" sInt f fd) (T : Bn mg) : FnOk P w K mg base CX0 1 f fd ["value"] (spIsInt K) := by
  refine F.ok scInt (fun vs H Q E h => ?_) (fun cdv A outer s H vs Q E hr h => ?_)
  · obtain ⟨v, n, rfl, _⟩ := h
    rfl
  obtain ⟨v, n, rfl, hv, q⟩ := h
  refine ⟨_, (pss_one (ps_ret (pe_and (pe_callB call_isi (by rfl) T.b_isinstance (by decide +kernel) (pa_cons (pv 0) (pa_cons (pe_bltn (v := .ty "int") (u := .type "int") (by rfl) T.b_int (by decide +kernel) rfl) pa_nil))) (pe_one (pe_not (pe_callB call_isi (by rfl) T.b_isinstance (by decide +kernel) (pa_cons (pv 0) (pa_cons (pe_bltn (v := .ty "bool") (u := .type "bool") (by rfl) T.b_bool (by decide +kernel) rfl) pa_nil)))))))), ?_⟩
  refine ⟨_, rfl, v, _, _, _, _, rfl, .ty "int", hv.1, kit_int hv.2, _, rfl, ?_⟩
  rw [← hv.isInt] at q
  by_cases e : n = "int"
  · subst e
    exact iteT ⟨_, rfl, v, _, _, _, _, rfl, .ty "bool", hv.1, kit_bool hv.2, _, rfl, q⟩
  · by_cases e2 : n = "bool"
    · subst e2
      exact iteT ⟨_, rfl, v, _, _, _, _, rfl, .ty "bool", hv.1, kit_bool hv.2, _, rfl, q⟩
    · have h1 : (n == "int") = false := by simpa using e
      have h2 : (n == "bool") = false := by simpa using e2
      rw [h1] at q ⊢
      rw [h2]
      exact iteF q
theorem ok_within (F : Fun K "is_within" "is_within" sWithin f fd) (T : Bn mg) (D_is_integer : Df K mg "is_integer" sInt f1 fd1 ["value"]) (G_is_integer : FnOk P w K mg base CX0 1 f1 fd1 ["value"] (spIsInt K)) : FnOk P w K mg base CX0 2 f fd ["value", "least", "most"] (spWithin K) := by
  refine F.ok scWithin (fun vs H Q E h => ?_) (fun cdv A outer s H vs Q E hr h => ?_)
  · obtain ⟨v, lo, hi, n, rfl, _⟩ := h
    rfl
  obtain ⟨v, lo, hi, n, rfl, hv, hlo, hhi, q⟩ := h
  refine ⟨_, (pss_cons (ps_if (pt_not (pt_val (pe_cd D_is_integer G_is_integer hr (by decide) (pa_cons (pv 0) pa_nil)))) (pss_one (ps_ret pe_bl)) pss_nil)
      (pss_one (ps_ret (pe_and (pe_or (pe_cmp (pc_isN (pv 1)) rfl) (pe_one (pe_cmpR op_le (pv 1) (pv 0) (nomark _)))) (pe_one (pe_or (pe_cmp (pc_isN (pv 2)) rfl) (pe_one (pe_cmpR op_le (pv 0) (pv 2) (nomark _))))))))), ?_⟩
  refine ⟨_, rfl, v, n, rfl, hv, _, rfl, ?_⟩
  cases e : intV v with
  | false =>
    refine iteT ?_
    have : withinV v lo hi = false := by cases v <;> first | rfl | cases e
    rw [this] at q
    exact q
  | true =>
    refine iteF ?_
    obtain ⟨i, rfl⟩ : ∃ i, v = .int i := by cases v <;> first | exact ⟨_, rfl⟩ | cases e
    rcases hlo with rfl | ⟨a, rfl⟩
    · refine ⟨_, rfl, _, rfl, iteT ⟨_, rfl, iteT ?_⟩⟩
      rcases hhi with rfl | ⟨b, rfl⟩
      · exact ⟨_, rfl, _, rfl, iteT q⟩
      · exact ⟨_, rfl, _, rfl, iteF ⟨_, rfl, _, rfl, _, _, rfl, rfl, q⟩⟩
    · refine ⟨_, rfl, _, rfl, iteF ⟨_, rfl, _, rfl, _, _, rfl, rfl, _, rfl, ?_⟩⟩
      by_cases c : a ≤ i
      · rw [decide_eq_true c]
        have hq : withinV (.int i) (.int a) hi = hiB i hi := by
          show (decide (a ≤ i) && _) = _
          rw [decide_eq_true c, Bool.true_and]
        rw [hq] at q
        refine iteT ?_
        rcases hhi with rfl | ⟨b, rfl⟩
        · exact ⟨_, rfl, _, rfl, iteT q⟩
        · exact ⟨_, rfl, _, rfl, iteF ⟨_, rfl, _, rfl, _, _, rfl, rfl, q⟩⟩
      · rw [decide_eq_false c]
        have hq : withinV (.int i) (.int a) hi = false := by
          show (decide (a ≤ i) && _) = _
          rw [decide_eq_false c, Bool.false_and]
        rw [hq] at q
        exact iteF q
theorem ok_name (F : Fun K "is_name" "is_name" sName f fd) (T : Bn mg) (C : Cn K mg) (D_is_within : Df K mg "is_within" sWithin f1 fd1 ["value", "least", "most"]) (G_is_within : FnOk P w K mg base CX0 2 f1 fd1 ["value", "least", "most"] (spWithin K)) : FnOk P w K mg base CX0 3 f fd ["value"] (spName K) := by
  refine F.ok scName (fun vs H Q E h => ?_) (fun cdv A outer s H vs Q E hr h => ?_)
  · obtain ⟨v, n, rfl, _⟩ := h
    rfl
  obtain ⟨v, n, rfl, hv, hz, q⟩ := h
  obtain ⟨tL, gL⟩ := C.lets
  obtain ⟨tD, gD⟩ := C.digs
  obtain ⟨tM, gM⟩ := C.long
  obtain ⟨aN, gN, hN⟩ := C.nons
  refine ⟨_, (pss_cons (ps_if (PW.pt (pw_or (pt_not (pt_val (pe_callB call_isi (by rfl) T.b_isinstance (by decide +kernel) (pa_cons (pv 0) (pa_cons (pe_bltn (v := .ty "str") (u := .type "str") (by rfl) T.b_str (by decide +kernel) rfl) pa_nil))))) (pw_or1 (pt_cmpR op_in_seq (pv 0) (pe_glob (v := .ref aN) rfl gN rfl) (by rfl))))) (pss_one (ps_ret pe_bl)) pss_nil)
      (pss_cons (ps_if (PW.pt (pw_or (pt_not (pt_val (pe_cd D_is_within G_is_within hr (by decide) (pa_cons (pe_callB call_len_str (by rfl) T.b_len (by decide +kernel) (pa_cons (pv 0) pa_nil)) (pa_cons pe_int (pa_cons (pe_glob (v := .int 12) rfl gM ⟨_, rfl⟩) pa_nil)))))) (pw_or1 (pt_cmpR op_notIn_sign (pe_ix ix_str (pv 0) pe_int (fun _ _ => rfl)) (pe_glob (v := .str "abcdefghijklmnopqrstuvwxyz") rfl gL ⟨_, rfl⟩) (by rfl))))) (pss_one (ps_ret pe_bl)) pss_nil)
      (pss_one (ps_ret (pe_callB (cr_all rfl) (by rfl) T.b_all (by decide +kernel) (pa_cons (pe_lc (own := [("sign", 1)]) (g := (gName 1)) (by rfl) scName.nd (pi_str (pv 0)) (blkOk_by (own := [("sign", 1)]) (N := ["value", "sign"]) (sc := defScope sName) (by decide +kernel)) (fun _ _ _ _ _ => (pg_name (i := 1) scName.nd rfl (.inl rfl))) (fun _ _ _ _ _ => pts_nil) (fun _ _ _ _ _ => (pe_or (pe_cmpR op_in_sign (pv 1) (pe_glob (v := .str "abcdefghijklmnopqrstuvwxyz") rfl gL ⟨_, rfl⟩) (by rfl)) (pe_one (pe_cmpR op_in_sign (pv 1) (pe_glob (v := .str "0123456789") rfl gD ⟨_, rfl⟩) (by rfl)))))) pa_nil)))))), ?_⟩
  refine ⟨_, rfl, v, _, _, _, _, rfl, .ty "str", hv.1, kit_str hv.2, _, rfl, ?_⟩
  rw [hv.isStr]
  cases e : strV v with
  | false =>
    have : nameV v = false := by cases v <;> first | rfl | cases e
    rw [this] at q
    exact iteT (iteT (q _ (Same.refl H)))
  | true =>
    obtain ⟨z, rfl⟩ : ∃ z, v = .str z := by cases v <;> first | exact ⟨_, rfl⟩ | cases e
    have hl := hz z rfl
    have hl2 : z.length ≤ sizeLine := Nat.le_of_lt (small1000 hl)
    have ec : z.length = z.cps.toList.length := by simp [Str.length]
    refine iteF ⟨_, rfl, aN, _, rfl, .inr (hN _), rfl, rfl, _, rfl, ?_⟩
    have qv : ∀ b, nameB z = b → ∀ H', Same H H' → Q (.bl b) H' := fun b hb H' s => by
      have := q H' s
      rw [show nameV (.str z) = b from hb] at this
      exact this
    cases e1 : inV (.str z) [.str "of", .str "to"] with
    | true =>
      refine iteT (qv false ?_ _ (Same.refl H))
      unfold nameB
      rw [e1]
      rfl
    | false =>
      refine iteF ?_
      refine ⟨_, rfl, z, rfl, hl2, .int z.length, .int 1, .int 12, "int", rfl, HasTy.int _, .inr ⟨1, rfl⟩, .inr ⟨12, rfl⟩, _, rfl, ?_⟩
      cases e2 : withinV (.int (z.length : Int)) (.int 1) (.int 12) with
      | false =>
        refine iteT (iteT (qv false ?_ _ (Same.refl H)))
        unfold nameB
        rw [e1, e2]
        rfl
      | true =>
        obtain ⟨c, r, er⟩ : ∃ c r, z.cps.toList = c :: r := by
          cases er : z.cps.toList with
          | nil =>
            rw [er] at ec
            rw [ec] at e2
            exact absurd e2 (by decide)
          | cons c r => exact ⟨c, r, rfl⟩
        refine iteF ⟨_, rfl, z, 0, c, rfl, rfl, hl2, by rw [er]; exact atI_nat (j := 0) rfl, c, _, rfl, rfl, _, rfl, ?_⟩
        cases e3 : letC c with
        | false =>
          have e3' : decide (c ∈ ("abcdefghijklmnopqrstuvwxyz" : Str).cps.toList) = false := e3
          rw [e3']
          refine iteT (qv false ?_ _ (Same.refl H))
          unfold nameB
          rw [e1, e2, er]
          show (true && (true && (letC c && _))) = false
          rw [e3]
          rfl
        | true =>
          have e3' : decide (c ∈ ("abcdefghijklmnopqrstuvwxyz" : Str).cps.toList) = true := e3
          rw [e3']
          refine iteF ?_
          refine ⟨_, rfl, z, rfl, fun D hD => ?_⟩
          refine lc_it walk_str (fun i H2 => Same H H2 ∧ H2 D = some (.lst ((z.cps.toList.map fun c => V.bl (letC c || digC c)).take i))) ?_ (fun _ _ _ _ => trivial) ?_ ?_
          · exact ⟨same_new hD, by rw [upd_same, List.take_zero]⟩
          · rintro i x H2 H3 hi ⟨s2, h3⟩ ⟨rfl, c, hc, rfl⟩
            have hc' : z.cps.toList[i]? = some c := by rw [← hc]; simp
            have fin : ∃ acc, H3 D = some (.lst acc) ∧ acc.length < sizeLine ∧ Same H (upd H3 D (.lst (acc ++ [V.bl (letC c || digC c)]))) ∧ (upd H3 D (.lst (acc ++ [V.bl (letC c || digC c)]))) D = some (.lst ((z.cps.toList.map fun c => V.bl (letC c || digC c)).take (i + 1))) := by
              refine ⟨_, h3, ?_, ?_, ?_⟩
              · rw [List.length_take, List.length_map, ← ec]
                exact small1000 (by omega)
              · intro y o hy
                rw [upd_ne (ne_of_none hy hD)]
                exact s2 y o hy
              · rw [upd_same, take_snoc (x := V.bl (letC c || digC c)) (by rw [List.getElem?_map, hc']; rfl)]
            refine ⟨rfl, _, rfl, c, _, rfl, rfl, _, rfl, ?_⟩
            by_cases q1 : letC c = true
            · rw [show decide (c ∈ ("abcdefghijklmnopqrstuvwxyz" : Str).cps.toList) = true from q1]
              refine iteT ?_
              rw [q1, Bool.true_or] at fin
              exact fin
            · have q1 : letC c = false := by simpa using q1
              rw [show decide (c ∈ ("abcdefghijklmnopqrstuvwxyz" : Str).cps.toList) = false from q1]
              refine iteF ⟨_, rfl, c, _, rfl, rfl, ?_⟩
              rw [q1, Bool.false_or] at fin
              exact fin
          · rintro H2 ⟨s2, h3⟩
            rw [List.take_of_length_le (by rw [List.length_map]; simp)] at h3
            refine ⟨D, z.cps.toList.map fun c => letC c || digC c, rfl, SqL.of (by rw [h3, List.map_map]; rfl), ?_⟩
            refine qv _ ?_ _ s2
            unfold nameB
            rw [e1, e2, List.all_map]
            show (true && (true && (headC z.cps.toList && _))) = _
            rw [er]
            show (true && (true && (letC c && _))) = _
            rw [e3]
            rfl
end
end TF07
/-! layouts in the heap -/
namespace TG
open PySem PySem.Spec L2
open PyProof.Rows hiding St
theorem small_le {n : Nat} (h : n ≤ 1000000) : n < sizeLine := by rw [sizeLine_eq]; omega
theorem kget_of {K : PySem.W.Frag} {a : Addr} {k : Str} {Q : VK} {H : Hp} {n : Int} (h : (∃ u, PySem.W.nsIn K a k = some (some u) ∧ RelV (.int n) u) ∨ (PySem.W.nsIn K a k = some none ∧ V.int 0 = V.int n)) (q : Q (.int n) H) :
    (∃ v u, PySem.W.nsIn K a k = some (some u) ∧ RelV v u ∧ Q v H) ∨ (PySem.W.nsIn K a k = some none ∧ Q (.int 0) H) := by
  rcases h with ⟨u, e, r⟩ | ⟨e, z⟩
  · exact .inl ⟨_, u, e, r, q⟩
  · exact .inr ⟨e, by rw [z]; exact q⟩
theorem ixN_of {n j : Nat} (hj : j < n) : ixN n (j : Int) = some j := by
  unfold ixN
  rw [if_pos (by omega), if_pos (by omega)]
  simp
theorem zero_len {n : Nat} : (List.replicate n [V.int 0]).flatten = List.replicate n (V.int 0) := by
  induction n with
  | zero => rfl
  | succ n ih => rw [List.replicate_succ, List.flatten_cons, ih]; rfl
theorem non_len {n : Nat} : (List.replicate n [V.non]).flatten = List.replicate n V.non := by
  induction n with
  | zero => rfl
  | succ n ih => rw [List.replicate_succ, List.flatten_cons, ih]; rfl
/-- where the j-th part ends that stands in it, counted from it -/
def Wr.cut : Wr → Nat → Nat
  | .nm _, _ => 1
  | .of _ b, j => if j = 0 then 1 else 1 + b.sg
  | .to a b, j => if j = 0 then 1 else if j = 1 then 1 + a.sg else 1 + a.sg + b.sg
theorem Wr.cut_zero : ∀ s : Wr, s.cut 0 = 1
  | .nm _ => rfl
  | .of _ _ => rfl
  | .to _ _ => rfl
theorem Wr.cut_pos : ∀ (s : Wr) (j : Nat), 1 ≤ s.cut j
  | .nm _, _ => Nat.le_refl _
  | .of _ b, j => by show 1 ≤ if j = 0 then 1 else 1 + b.sg; split <;> omega
  | .to a b, j => by show 1 ≤ if j = 0 then 1 else if j = 1 then 1 + a.sg else 1 + a.sg + b.sg; split; omega; split <;> omega
theorem Wr.cut_end : ∀ s : Wr, s.cut s.kids.length = s.sg
  | .nm _ => rfl
  | .of _ b => by show 1 + b.sg = b.sg + 1; omega
  | .to a b => by show 1 + a.sg + b.sg = a.sg + b.sg + 1; omega
theorem Wr.cut_kid : ∀ {w s : Wr} {i j : Nat}, w.subs[i]? = some s → j < s.kids.length → ∃ c, w.subs[i + s.cut j]? = some c ∧ s.cut (j + 1) = s.cut j + c.sg ∧ s.kids[j]? = some (s.cut j)
  | w, .nm _, i, j, h, hj => absurd hj (Nat.not_lt_zero j)
  | w, .of x b, i, j, h, hj => by
    have hj : j < 1 := hj
    obtain rfl : j = 0 := by omega
    exact ⟨b, kid_of h, rfl, rfl⟩
  | w, .to a b, i, j, h, hj => by
    have hj : j < 2 := hj
    by_cases c : j = 0
    · subst c
      exact ⟨a, kid_one h, rfl, rfl⟩
    · obtain rfl : j = 1 := by omega
      exact ⟨b, by rw [show i + (Wr.to a b).cut 1 = i + 1 + a.sg from (Nat.add_assoc i 1 a.sg).symm]; exact kid_two h, rfl, rfl⟩
def kidV (i : Nat) (s : Wr) : List V := s.kids.map fun k => V.int ((i + k : Nat) : Int)
/-- the words of a writing's signs -/
def wdV (w : Wr) : List V := w.subs.map fun s => V.str s.wd
theorem wdV_at {w s : Wr} {i : Nat} (h : w.subs[i]? = some s) : (wdV w)[i]? = some (V.str s.wd) := by
  unfold wdV
  rw [List.getElem?_map, h]
  rfl
theorem wdV_len (w : Wr) : (wdV w).length = w.sg := by
  unfold wdV
  rw [List.length_map, w.subs_len]
/-- where each part ends -/
def EndsAt (H : Hp) (e : Addr) (w : Wr) : Prop := ∃ xs : List V, H e = some (.lst xs) ∧ xs.length = w.sg ∧ ∀ (i : Nat) (s : Wr), w.subs[i]? = some s → xs[i]? = some (V.int ((i + s.sg : Nat) : Int))
/-- where its own parts begin -/
def BelowAt (H : Hp) (b : Addr) (w : Wr) : Prop := ∃ bs : List Addr, H b = some (.lst (bs.map V.ref)) ∧ bs.length = w.sg ∧ ∀ (i : Nat) (s : Wr) (a : Addr), w.subs[i]? = some s → bs[i]? = some a → H a = some (.lst (kidV i s))
def optV : Option Nat → V
  | none => .non
  | some j => .int (j : Int)
/-- the "of" just around -/
def AroundAt (H : Hp) (a : Addr) (w : Wr) : Prop := ∃ xs : List V, H a = some (.lst xs) ∧ xs.length = w.sg ∧ ∀ i, i < w.sg → xs[i]? = some (optV ((w.env i).head?.map (·.2)))
/-- the "of" that binds it -/
def BindAt (H : Hp) (a : Addr) (w : Wr) : Prop := ∃ xs : List V, H a = some (.lst xs) ∧ xs.length = w.sg ∧ ∀ i, i < w.sg → xs[i]? = some (optV (w.bnd i))
/-- the second of a sign's pair -/
def nvV : Wr → V
  | .nm z => .str z
  | .of x _ => .str x
  | .to _ _ => .non
/-- the signs, each a pair -/
def SignsAt (H : Hp) (a : Addr) (w : Wr) : Prop := ∃ ts : List Addr, H a = some (.lst (ts.map V.ref)) ∧ ts.length = w.sg ∧ ∀ (i : Nat) (s : Wr) (t : Addr), w.subs[i]? = some s → ts[i]? = some t → H t = some (.tup [.str s.wd, nvV s])
theorem EndsAt.same {H H' : Hp} {a : Addr} {w : Wr} (h : EndsAt H a w) (s : Same H H') : EndsAt H' a w := let ⟨xs, e, l, k⟩ := h; ⟨xs, s _ _ e, l, k⟩
theorem BelowAt.same {H H' : Hp} {a : Addr} {w : Wr} (h : BelowAt H a w) (s : Same H H') : BelowAt H' a w := let ⟨bs, e, l, k⟩ := h; ⟨bs, s _ _ e, l, fun i t a h1 h2 => s _ _ (k i t a h1 h2)⟩
theorem AroundAt.same {H H' : Hp} {a : Addr} {w : Wr} (h : AroundAt H a w) (s : Same H H') : AroundAt H' a w := let ⟨xs, e, l, k⟩ := h; ⟨xs, s _ _ e, l, k⟩
theorem BindAt.same {H H' : Hp} {a : Addr} {w : Wr} (h : BindAt H a w) (s : Same H H') : BindAt H' a w := let ⟨xs, e, l, k⟩ := h; ⟨xs, s _ _ e, l, k⟩
theorem SignsAt.same {H H' : Hp} {a : Addr} {w : Wr} (h : SignsAt H a w) (s : Same H H') : SignsAt H' a w := let ⟨xs, e, l, k⟩ := h; ⟨xs, s _ _ e, l, fun i t a h1 h2 => s _ _ (k i t a h1 h2)⟩
/-- a store where nothing stood ahead -/
theorem same_put {H H2 : Hp} {a : Addr} {o : HO} (s : Same H H2) (h : H a = none) : Same H (L2.upd H2 a o) := fun b u e => by
  rw [upd_ne (ne_of_none e h)]
  exact s b u e
theorem get_lt {α : Type} {xs : List α} {i : Nat} (h : i < xs.length) : ∃ x, xs[i]? = some x := ⟨xs[i], List.getElem?_eq_getElem h⟩
theorem lt_get {α : Type} {xs : List α} {i : Nat} {x : α} (h : xs[i]? = some x) : i < xs.length := (List.getElem?_eq_some_iff.mp h).1
theorem mem_get {α : Type} {xs : List α} {i : Nat} {x : α} (h : xs[i]? = some x) : x ∈ xs := List.mem_of_getElem? h
theorem nodup_get {α : Type} {xs : List α} (n : xs.Nodup) {i j : Nat} {x : α} (h : xs[i]? = some x) (k : xs[j]? = some x) : i = j := by
  obtain ⟨hi, e1⟩ := List.getElem?_eq_some_iff.mp h
  obtain ⟨hj, e2⟩ := List.getElem?_eq_some_iff.mp k
  exact (List.getElem_inj n).mp (e1.trans e2.symm)
theorem wr_get (w : Wr) {i : Nat} (h : i < w.sg) : ∃ s, w.subs[i]? = some s := get_lt (by rw [w.subs_len]; exact h)
def spBounds : Sp := fun vs H Q _ => ∃ (r : Addr) (w : Wr), vs = [.ref r] ∧ H r = some (.lst (wdV w)) ∧ w.sg ≤ 2000 ∧
  ∀ (t e b : Addr) (H' : Hp), Same H H' → H' t = some (.tup [.ref e, .ref b]) → EndsAt H' e w → BelowAt H' b w → Q (.ref t) H'
def spAround : Sp := fun vs H Q _ => ∃ (g b : Addr) (w : Wr), vs = [.ref g, .ref b] ∧ SignsAt H g w ∧ BelowAt H b w ∧ w.sg ≤ 2000 ∧
  ∀ (a : Addr) (H' : Hp), Same H H' → AroundAt H' a w → Q (.ref a) H'
def spBinder : Sp := fun vs H Q _ => ∃ (g a : Addr) (w : Wr) (i : Nat), vs = [.ref g, .ref a, .int (i : Int)] ∧ SignsAt H g w ∧ AroundAt H a w ∧ i < w.sg ∧ w.sg ≤ 2000 ∧ w.all okN = true ∧
  Q (optV (w.bnd i)) H
end TG
namespace TF07
open PySem PySem.Spec L2 TG TA
open PyProof.Rows hiding St
abbrev sBounds : Stmt := top 15
theorem scBounds : FnScope ["row", "ends", "below", "_", "at", "end"] ["row"] (defScope sBounds) := ⟨rfl, rfl, rfl, by decide +kernel, rfl, by decide +kernel, by decide +kernel⟩
section
variable {P : Program} {w : World} {K : PySem.W.Frag} {mg : Str → Option Value} {base : Heap} {f : Addr} {fd : FuncData}
theorem ok_bounds (F : Fun K "bounds_in" "bounds_in" sBounds f fd) (T : Bn mg) (Z : Pw K w mg) : FnOk P w K mg base CX0 1 f fd ["row"] spBounds := by
  refine F.ok scBounds (fun vs H Q E h => ?_) (fun cdv A outer s H vs Q E hr h => ?_)
  · obtain ⟨r, wr, rfl, _⟩ := h
    rfl
  obtain ⟨r, wr, rfl, hr0, hsg, q⟩ := h
  obtain ⟨aP, gP, kd, ⟨t1, k1⟩, ⟨t2, k2⟩, _, k0⟩ := Z.at_
  refine ⟨_, (pss_cons (ps_set (i := 1) scBounds.nd rfl (.inl rfl) (pe_op op_rep (pe_lst (pa_cons pe_int pa_nil)) (pe_callB call_len_seq (by rfl) T.b_len (by decide +kernel) (pa_cons (pv 0) pa_nil))))
      (pss_cons (ps_setLc (i := 2) (own := [("_", 3)]) (g := (gName 3)) rfl scBounds.nd rfl rfl (sw_true rfl rfl rfl (by decide +kernel)) (pi_list (pv 0)) (blkOk_by (own := [("_", 3)]) (N := ["row", "ends", "below", "_", "at", "end"]) (sc := defScope sBounds) (by decide +kernel)) (fun _ _ _ _ _ => (pg_name (i := 3) scBounds.nd rfl (.inl rfl))) (fun _ _ _ _ _ => pts_nil) (fun _ _ _ _ _ => (pe_lst pa_nil)))
      (pss_cons (ps_for PassesOwn.never rfl (pi_revR (by rfl) T.b_reversed (prg_1 (by rfl) T.b_range (pe_callB call_len_seq (by rfl) T.b_len (by decide +kernel) (pa_cons (pv 0) pa_nil)))) (pg_name (i := 4) scBounds.nd rfl (.inl rfl))
        (pss_cons (ps_set (i := 5) scBounds.nd rfl (.inl rfl) (pe_op op_add (pv 4) pe_int))
        (pss_cons (ps_for PassesOwn.never rfl (pi_range1 (by rfl) T.b_range (pa_cons (pe_kget (pe_glob (v := .ref aP) rfl gP rfl) (pe_ix ix_list (pv 0) (pv 4) (fun _ _ => rfl)) pe_int ⟨rfl, rfl, rfl, rfl⟩) pa_nil)) (pg_name (i := 3) scBounds.nd rfl (.inl rfl))
          (pss_cons (ps_expr (pe_bm PySem.F.plainAttrs_list PySem.F.slot_list_append PySem.F.type_list_append mt_append (pe_ix ix_list (pv 2) (pv 4) (fun _ _ => rfl)) (pa_cons (pv 5) pa_nil)))
          (pss_one (ps_set (i := 5) scBounds.nd rfl (.inl rfl) (pe_ix ix_list (pv 1) (pv 5) (fun _ _ => rfl))))))
        (pss_one (ps_asg (pv 5) (pg_sub (pv 1) (pv 4) set_list))))))
      (pss_one (ps_ret (pe_tup (pa_cons (pv 1) (pa_cons (pv 2) pa_nil)))))))), ?_⟩
  have hn : (wdV wr).length = wr.sg := wdV_len wr
  refine ⟨(by show 1 ≤ sizeLine; decide), fun l0 hl0 => ⟨_, rfl, r, _, rfl, .inl (SqL.of ((same_new hl0) _ _ hr0)), ?_⟩⟩
  have s0 : Same H (L2.upd H l0 (.lst [.int 0])) := same_new hl0
  refine ⟨_, _, _, rfl, rfl, upd_same, by omega, by omega, (by show 1 * ((wdV wr).length : Int).toNat ≤ sizeLine; rw [hn]; exact Nat.le_of_lt (small_le (by omega))), fun e he => ?_⟩
  rw [zero_len, hn]
  have s1 : Same H (L2.upd (L2.upd H l0 (.lst [.int 0])) e (.lst (List.replicate ((wr.sg : Int)).toNat (V.int 0)))) := s0.trans (same_new he)
  have he0 : H e = none := s0.free he
  generalize hHa : (L2.upd (L2.upd H l0 (.lst [.int 0])) e (.lst (List.replicate ((wr.sg : Int)).toNat (V.int 0)))) = Ha at *
  have hea : Ha e = some (.lst (List.replicate wr.sg (V.int 0))) := by rw [← hHa, upd_same]; rfl
  refine ⟨_, rfl, r, rfl, ⟨_, SqL.of (s1 _ _ hr0)⟩, fun b hb => ?_⟩
  have hb0 : H b = none := s1.free hb
  have neb : e ≠ b := ne_of_none hea hb
  refine lc_list (K := K) (a := r) (xs := wdV wr) (fun i H2 => ∃ bs : List Addr, Same H H2 ∧ H2 e = some (.lst (List.replicate wr.sg (V.int 0))) ∧ H2 b = some (.lst (bs.map V.ref)) ∧ bs.length = i ∧ bs.Nodup ∧ ∀ a ∈ bs, H a = none ∧ a ≠ e ∧ a ≠ b ∧ H2 a = some (.lst [])) ?_ ?_ ?_ ?_
  · exact ⟨[], s1.trans (same_new hb), by rw [upd_ne neb]; exact hea, upd_same, rfl, List.nodup_nil, fun a ha => absurd ha List.not_mem_nil⟩
  · rintro i H2 _ ⟨bs, s2, _⟩
    exact SqL.of (s2 _ _ hr0)
  · rintro i x H2 hx ⟨bs, s2, h2, h3, hl, nd, hbs⟩
    have hi : i < wr.sg := by rw [← hn]; exact lt_get hx
    refine ⟨rfl, Nat.zero_le _, fun a ha => ?_⟩
    have nae : e ≠ a := ne_of_none h2 ha
    have nab : b ≠ a := ne_of_none h3 ha
    have ha0 : H a = none := s2.free ha
    refine ⟨_, by rw [upd_ne nab]; exact h3, by rw [List.length_map]; exact small_le (by omega), bs ++ [a], ?_, ?_, ?_, ?_, ?_, ?_⟩
    · exact same_put (same_put s2 ha0) hb0
    · rw [upd_ne neb, upd_ne nae]; exact h2
    · rw [upd_same, List.map_append]; rfl
    · rw [List.length_append, hl]; rfl
    · refine List.nodup_append.mpr ⟨nd, List.nodup_cons.mpr ⟨List.not_mem_nil, List.nodup_nil⟩, fun y hy z hz => ?_⟩
      rw [List.mem_singleton.mp hz]
      exact ne_of_none (hbs y hy).2.2.2 ha
    · intro y hy
      rcases List.mem_append.mp hy with hy | hy
      · obtain ⟨y1, y2, y3, y4⟩ := hbs y hy
        exact ⟨y1, y2, y3, by rw [upd_ne y3, upd_ne (ne_of_none y4 ha)]; exact y4⟩
      · rw [List.mem_singleton.mp hy]
        exact ⟨ha0, Ne.symm nae, Ne.symm nab, by rw [upd_ne (Ne.symm nab), upd_same]⟩
  rintro H2 ⟨bs, s2, h2, h3, hl, nd, hbs⟩
  rw [hn] at hl
  refine ⟨_, rfl, r, _, rfl, .inl (SqL.of (s2 _ _ hr0)), ?_⟩
  have hnI : ((wdV wr).length : Int) = (wr.sg : Int) := by rw [hn]
  have hnT : (((wdV wr).length : Int) - 0).toNat = wr.sg := by omega
  refine ⟨_, rfl, (by show (-(2 ^ 62) : Int) ≤ 0; omega), (by show (0 : Int) < 2 ^ 62; omega), by omega, by omega, ?_⟩
  rw [hnT]
  have bmem : ∀ {i : Nat} {a : Addr}, bs[i]? = some a → H a = none ∧ a ≠ e ∧ a ≠ b := fun h => ⟨(hbs _ (mem_get h)).1, (hbs _ (mem_get h)).2.1, (hbs _ (mem_get h)).2.2.1⟩
  refine for_rangeC (n := wr.sg) (fun k σ H3 => ∃ (xs : List V) (v3 v4 v5 : Option V), σ = [some (.ref r), some (.ref e), some (.ref b), v3, v4, v5] ∧ Same H H3 ∧ H3 b = some (.lst (bs.map V.ref)) ∧ H3 e = some (.lst xs) ∧ xs.length = wr.sg ∧
    (∀ (i : Nat) (s : Wr), wr.sg - k ≤ i → wr.subs[i]? = some s → xs[i]? = some (V.int ((i + s.sg : Nat) : Int))) ∧ (∀ (i : Nat) (s : Wr) (a : Addr), wr.subs[i]? = some s → bs[i]? = some a → H3 a = some (.lst (if wr.sg - k ≤ i then kidV i s else [])))) ?_ ?_ ?_
  · refine ⟨_, none, none, none, rfl, s2, h3, h2, List.length_replicate, fun i s hi hs => ?_, fun i s a hs ha => ?_⟩
    · have := Wr.subs_lt hs
      omega
    · have := Wr.subs_lt hs
      rw [if_neg (by omega)]
      exact (hbs a (mem_get ha)).2.2.2
  · rintro k σ H3 hk ⟨xs, v3, v4, v5, rfl, s3, hb3, he3, hx, hx1, hb1⟩
    obtain ⟨i, hi⟩ : ∃ i, i = wr.sg - 1 - k := ⟨_, rfl⟩
    have hin : i < wr.sg := by omega
    have ei : (0 + ((wr.sg : Nat) : Int) - 1 + (k : Int) * -1) = (i : Int) := by omega
    obtain ⟨s, hs⟩ := wr_get wr hin
    obtain ⟨a, ha⟩ : ∃ a, bs[i]? = some a := get_lt (by rw [hl]; exact hin)
    obtain ⟨a0, nae, nab⟩ := bmem ha
    rw [ei]
    refine ⟨_, rfl, _, _, rfl, rfl, aP, rfl, kd, _, rfl, _, rfl, r, _, _, _, rfl, rfl, SqL.of (s3 _ _ hr0), atI_nat (wdV_at hs), s.wd, rfl, ?_⟩
    have hkid : (∃ u, PySem.W.nsIn K aP s.wd = some (some u) ∧ RelV (.int (s.kids.length : Int)) u) ∨ (PySem.W.nsIn K aP s.wd = some none ∧ V.int 0 = V.int (s.kids.length : Int)) := by
      cases s with
      | nm z => exact .inr ⟨k0, rfl⟩
      | of x c => exact .inl ⟨_, k1, ⟨_, rfl⟩⟩
      | to c d => exact .inl ⟨_, k2, ⟨_, rfl⟩⟩
    have hk2 : s.kids.length ≤ 2 := by cases s <;> (first | exact Nat.zero_le _ | exact Nat.le_refl _ | exact Nat.le_succ _)
    have hkl : s.kids.length < sizeLine := small_le (by omega)
    have hkv : ∀ j, j < s.kids.length → s.kids.take (j + 1) = s.kids.take j ++ [s.cut j] := fun j hj => by
      obtain ⟨c, _, _, h⟩ := Wr.cut_kid hs hj
      exact take_snoc h
    refine kget_of hkid ?_
    · skip
      refine ⟨_, rfl, by omega, by omega, ?_⟩
      rw [show ((s.kids.length : Int)).toNat = s.kids.length from rfl]
      refine for_range (lo := 0) (n := s.kids.length) (fun j σ H4 => ∃ (v3 : Option V), σ = [some (.ref r), some (.ref e), some (.ref b), v3, some (.int (i : Int)), some (.int ((i + s.cut j : Nat) : Int))] ∧ Same H H4 ∧ H4 b = some (.lst (bs.map V.ref)) ∧ H4 e = some (.lst xs) ∧
        H4 a = some (.lst ((s.kids.take j).map fun k => V.int ((i + k : Nat) : Int))) ∧ (∀ (i2 : Nat) (s2 : Wr) (a2 : Addr), i2 ≠ i → wr.subs[i2]? = some s2 → bs[i2]? = some a2 → H4 a2 = some (.lst (if wr.sg - k ≤ i2 then kidV i2 s2 else [])))) ?_ ?_ ?_
      · refine ⟨v3, ?_, s3, hb3, he3, ?_, fun i2 s2 a2 _ h1 h2 => hb1 i2 s2 a2 h1 h2⟩
        · rw [Wr.cut_zero]
          rfl
        · have h4 := hb1 i s a hs ha
          rw [if_neg (by omega)] at h4
          exact h4
      · rintro j σ H4 hj ⟨v3, rfl, s4, hb4, he4, ha4, ho4⟩
        obtain ⟨c, hc, hc2, hc3⟩ := Wr.cut_kid hs hj
        have hcl := Wr.subs_lt hc
        have ncb : a ≠ b := nab
        refine ⟨_, rfl, _, rfl, b, _, _, .ref a, rfl, rfl, SqL.of hb4, atI_nat (j := i) (by rw [List.getElem?_map, ha]; rfl), .inl ⟨rfl, _, SqL.of ha4⟩, _, rfl, a, _, _, rfl, rfl, ha4, by rw [List.length_map, List.length_take]; omega, ?_⟩
        have ha5 : ∀ o, (L2.upd H4 a o) e = some (.lst xs) := fun o => by rw [upd_ne (Ne.symm nae)]; exact he4
        refine ⟨_, rfl, _, rfl, e, _, _, _, rfl, rfl, SqL.of (ha5 _), atI_nat (hx1 (i + s.cut j) c (by have := Wr.cut_pos s j; omega) hc), some (.int (0 + (j : Int))), ?_, same_put s4 a0, by rw [upd_ne (Ne.symm nab)]; exact hb4, ha5 _, ?_, ?_⟩
        · rw [hc2, show i + s.cut j + c.sg = i + (s.cut j + c.sg) by omega]
          rfl
        · rw [upd_same, hkv j hj, List.map_append]
          rfl
        · intro i2 s2 a2 n2 h1 h2
          rw [upd_ne (fun z => n2 (nodup_get nd h2 (by rw [z]; exact ha)))]
          exact ho4 i2 s2 a2 n2 h1 h2
      · rintro σ H4 ⟨v3, rfl, s4, hb4, he4, ha4, ho4⟩
        rw [Wr.cut_end]
        refine ⟨_, rfl, _, rfl, _, rfl, e, _, _, i, rfl, rfl, he4, ixN_of (by omega), ?_⟩
        refine ⟨_, _, _, _, rfl, same_put s4 he0, by rw [upd_ne (Ne.symm neb)]; exact hb4, upd_same, by rw [List.length_set]; exact hx, fun i2 s2 hi2 hs2 => ?_, fun i2 s2 a2 hs2 ha2 => ?_⟩
        · by_cases c : i2 = i
          · subst c
            rw [hs] at hs2
            cases hs2
            rw [List.getElem?_set_self (by omega)]
          · rw [List.getElem?_set_ne (Ne.symm c)]
            exact hx1 i2 s2 (by omega) hs2
        · have ne2 := (bmem ha2).2.1
          rw [upd_ne ne2]
          by_cases c : i2 = i
          · subst c
            rw [hs] at hs2
            cases hs2
            rw [ha] at ha2
            cases ha2
            rw [if_pos (by omega), ha4, List.take_of_length_le (Nat.le_refl _)]
            rfl
          · rw [ho4 i2 s2 a2 c hs2 ha2]
            by_cases d : wr.sg - k ≤ i2
            · rw [if_pos d, if_pos (by omega)]
            · rw [if_neg d, if_neg (by omega)]
  · rintro σ H3 ⟨xs, v3, v4, v5, rfl, s3, hb3, he3, hx, hx1, hb1⟩
    refine ⟨_, rfl, _, rfl, (by show 2 ≤ sizeLine; decide), fun t ht => ?_⟩
    refine q t e b _ (same_put s3 (s3.free ht)) upd_same ⟨xs, by rw [upd_ne (ne_of_none he3 ht)]; exact he3, hx, fun i s hs => hx1 i s (by omega) hs⟩ ⟨bs, by rw [upd_ne (ne_of_none hb3 ht)]; exact hb3, hl, fun i s a hs ha => ?_⟩
    have h4 := hb1 i s a hs ha
    rw [if_pos (by omega)] at h4
    rw [upd_ne (ne_of_none h4 ht)]
    exact h4
end
end TF07
namespace TF07
open PySem PySem.Spec L2 TG TA
open PyProof.Rows hiding St
abbrev sAround : Stmt := top 21
abbrev sBinder : Stmt := top 22
theorem scAround : FnScope ["signs", "below", "around", "at", "word", "_", "part"] ["signs", "below"] (defScope sAround) := ⟨rfl, rfl, rfl, by decide +kernel, rfl, by decide +kernel, by decide +kernel⟩
theorem scBinder : FnScope ["signs", "around", "at", "word", "name", "found"] ["signs", "around", "at"] (defScope sBinder) := ⟨rfl, rfl, rfl, by decide +kernel, rfl, by decide +kernel, by decide +kernel⟩
section
variable {P : Program} {w : World} {K : PySem.W.Frag} {mg : Str → Option Value} {base : Heap} {f : Addr} {fd : FuncData}
theorem ok_around (F : Fun K "ofs_around" "ofs_around" sAround f fd) (T : Bn mg) (Z : Lw mg) : FnOk P w K mg base CX0 1 f fd ["signs", "below"] spAround := by
  refine F.ok scAround (fun vs H Q E h => ?_) (fun cdv A outer s H vs Q E hr h => ?_)
  · obtain ⟨g, b, wr, rfl, _⟩ := h
    rfl
  obtain ⟨g, b, wr, rfl, ⟨ts, hg, hgl, hgt⟩, ⟨bs, hb, hbl, hbk⟩, hsg, q⟩ := h
  obtain ⟨tOf, gOf⟩ := Z.of_
  refine ⟨_, (pss_cons (ps_set (i := 2) scAround.nd rfl (.inl rfl) (pe_op op_rep (pe_lst (pa_cons pe_non pa_nil)) (pe_callB call_len_seq (by rfl) T.b_len (by decide +kernel) (pa_cons (pv 0) pa_nil))))
      (pss_cons (ps_for PassesOwn.never rfl (pi_enum (by rfl) T.b_enumerate (pa_cons (pv 0) pa_nil)) (pg_tup (by rfl) (pgs_cons (pg_name (i := 3) scAround.nd rfl (.inl rfl)) (pgs_cons (pg_tup (by rfl) (pgs_cons (pg_name (i := 4) scAround.nd rfl (.inl rfl)) (pgs_cons (pg_name (i := 5) scAround.nd rfl (.inl rfl)) pgs_nil))) pgs_nil)))
        (pss_one (ps_for PassesOwn.never rfl (pi_list (pe_ix ix_list (pv 1) (pv 3) (fun _ _ => rfl))) (pg_name (i := 6) scAround.nd rfl (.inl rfl))
          (pss_one (ps_asg (pe_ifExp (pt_cmpR op_eq (pv 4) (pe_glob (v := .str "of") rfl gOf ⟨_, rfl⟩) (nomark _)) (pv 3) (pe_ix ix_list (pv 2) (pv 3) (fun _ _ => rfl))) (pg_sub (pv 2) (pv 6) set_list))))))
      (pss_one (ps_ret (pv 2))))), ?_⟩
  refine ⟨(by show 1 ≤ sizeLine; decide), fun l0 hl0 => ⟨_, rfl, g, _, rfl, .inl (SqL.of ((same_new hl0) _ _ hg)), ?_⟩⟩
  have s0 : Same H (L2.upd H l0 (.lst [.non])) := same_new hl0
  have hn : (ts.map V.ref).length = wr.sg := by rw [List.length_map, hgl]
  rw [hn]
  refine ⟨_, _, _, rfl, rfl, upd_same, by omega, by omega, (by show 1 * ((wr.sg : Int)).toNat ≤ sizeLine; exact Nat.le_of_lt (small_le (by omega))), fun a ha => ?_⟩
  rw [non_len]
  have a0 : H a = none := s0.free ha
  have s1 : Same H (L2.upd (L2.upd H l0 (.lst [.non])) a (.lst (List.replicate ((wr.sg : Int)).toNat V.non))) := s0.trans (same_new ha)
  generalize hHa : (L2.upd (L2.upd H l0 (.lst [.non])) a (.lst (List.replicate ((wr.sg : Int)).toNat V.non))) = Ha at *
  have haa : Ha a = some (.lst (List.replicate wr.sg V.non)) := by rw [← hHa, upd_same]; rfl
  refine ⟨_, rfl, g, _, rfl, SqL.of (s1 _ _ hg), ?_⟩
  refine for_it (walk_enum (xs := ts.map V.ref)) (fun k σ H2 => ∃ (xs : List V) (v3 v4 v5 v6 : Option V), σ = [some (.ref g), some (.ref b), some (.ref a), v3, v4, v5, v6] ∧ Same H H2 ∧ H2 a = some (.lst xs) ∧ xs.length = wr.sg ∧ xs[0]? = some .non ∧
    (∀ (j : Nat) (s : Wr) (p : Nat), j < k → wr.subs[j]? = some s → p ∈ s.kids → xs[j + p]? = some (optV ((wr.env (j + p)).head?.map (·.2))))) ?_ ?_ ?_ ?_
  · have h1 := wr.sg_pos
    exact ⟨_, none, none, none, none, rfl, s1, haa, List.length_replicate, by rw [List.getElem?_replicate, if_pos (by omega)], fun j s p hj _ _ => absurd hj (Nat.not_lt_zero j)⟩
  · rintro i σ H2 hi ⟨xs, v3, v4, v5, v6, rfl, s2, _⟩
    exact SqL.of (s2 _ _ hg)
  · rintro k x σ H2 H3 hk ⟨xs, v3, v4, v5, v6, rfl, s2, ha2, hx, hx0, hxs⟩ ⟨tp, y1, y2, rfl, htp, rfl, e1, e2⟩
    cases e1
    rw [hn] at hk
    obtain ⟨s, hs⟩ := wr_get wr hk
    have e2 : (ts.map V.ref)[k]? = some y2 := e2
    rw [List.getElem?_map] at e2
    obtain ⟨t, ht, rfl⟩ := Option.map_eq_some_iff.mp e2
    have ht2 := hgt k s t hs ht
    have s3 : Same H (L2.upd H2 tp (.tup [.int ((k : Nat) : Int), .ref t])) := same_put s2 (s2.free htp)
    have nat_ : a ≠ tp := ne_of_none ha2 htp
    refine ⟨tp, _, rfl, SqT.of upd_same, rfl, _, _, rfl, _, _, rfl, t, _, rfl, SqT.of (s3 _ _ ht2), rfl, _, _, rfl, _, _, rfl, rfl, rfl, ?_⟩
    have hne : optV ((wr.env k).head?.map (·.2)) = xs.getD k .non ∧ xs[k]? = some (optV ((wr.env k).head?.map (·.2))) := by
      by_cases c : k = 0
      · subst c
        rw [Wr.env_zero, List.getD_eq_getElem?_getD, hx0]
        exact ⟨rfl, rfl⟩
      · obtain ⟨j, s', p, hj, hs', hp, e⟩ := Wr.has_par (w := wr) (i := k) (by omega) hk
        have h4 := hxs j s' p hj hs' hp
        rw [← e] at h4
        rw [List.getD_eq_getElem?_getD, h4]
        exact ⟨rfl, rfl⟩
    obtain ⟨bk, hbk1⟩ : ∃ bk, bs[k]? = some bk := get_lt (by rw [hbl]; exact hk)
    have hbk2 := hbk k s bk hs hbk1
    refine ⟨_, rfl, _, rfl, b, _, _, .ref bk, rfl, rfl, SqL.of (s3 _ _ hb), atI_nat (j := k) (by rw [List.getElem?_map, hbk1]; rfl), bk, rfl, ⟨_, SqL.of (s3 _ _ hbk2)⟩, ?_⟩
    have nab : a ≠ bk := fun z => by
      rw [z] at a0
      rw [a0] at hbk2
      cases hbk2
    refine for_it (walk_list (xs := kidV k s)) (fun j σ H4 => ∃ (xs : List V) (v6 : Option V), σ = [some (.ref g), some (.ref b), some (.ref a), some (.int (k : Int)), some (.str s.wd), some (nvV s), v6] ∧ Same H H4 ∧ H4 a = some (.lst xs) ∧ xs.length = wr.sg ∧ xs[0]? = some .non ∧ xs[k]? = some (optV ((wr.env k).head?.map (·.2))) ∧
      (∀ (j : Nat) (s : Wr) (p : Nat), j < k → wr.subs[j]? = some s → p ∈ s.kids → xs[j + p]? = some (optV ((wr.env (j + p)).head?.map (·.2)))) ∧
      (∀ p ∈ s.kids.take j, xs[k + p]? = some (optV ((wr.env (k + p)).head?.map (·.2))))) ?_ ?_ ?_ ?_
    · exact ⟨xs, v6, rfl, s3, by rw [upd_ne nat_]; exact ha2, hx, hx0, hne.2, hxs, fun p hp => absurd hp (by rw [List.take_zero]; exact List.not_mem_nil)⟩
    · rintro j σ H4 _ ⟨_, _, _, s4, _⟩
      exact SqL.of (s4 _ _ hbk2)
    · rintro j x σ G4 H4 hj ⟨xs, v6, rfl, s4, ha4, hx4, h04, hk4, ho4, hn4⟩ ⟨rfl, hxj⟩
      unfold kidV at hxj
      rw [List.getElem?_map] at hxj
      obtain ⟨p, hp, rfl⟩ := Option.map_eq_some_iff.mp hxj
      have hpm := mem_get hp
      have fits : k + p < wr.sg := by
        have f := Wr.subs_fit hs
        have : p < s.sg := by
          cases s with
          | nm z => exact absurd hpm List.not_mem_nil
          | of x c =>
            rw [List.mem_singleton.mp hpm]
            have := c.sg_pos
            show 1 < c.sg + 1
            omega
          | to c d =>
            have h1 := c.sg_pos
            have h2 := d.sg_pos
            show p < c.sg + d.sg + 1
            rcases List.mem_cons.mp hpm with z | z
            · omega
            · have := List.mem_singleton.mp z
              omega
        omega
      have setF : ∀ (i : Nat), xs[i]? = some (optV ((wr.env i).head?.map (·.2))) → (xs.set (k + p) (optV ((wr.env (k + p)).head?.map (·.2))))[i]? = some (optV ((wr.env i).head?.map (·.2))) := fun i h => by
        by_cases c : k + p = i
        · rw [← c, List.getElem?_set_self (by omega)]
        · rw [List.getElem?_set_ne c]
          exact h
      have fin : ∃ (ys : List V) (v6 : Option V), [some (V.ref g), some (.ref b), some (.ref a), some (.int (k : Int)), some (.str s.wd), some (nvV s), some (.int ((k + p : Nat) : Int))] = [some (.ref g), some (.ref b), some (.ref a), some (.int (k : Int)), some (.str s.wd), some (nvV s), v6] ∧ Same H (L2.upd H4 a (.lst (xs.set (k + p) (optV ((wr.env (k + p)).head?.map (·.2)))))) ∧
          (L2.upd H4 a (.lst (xs.set (k + p) (optV ((wr.env (k + p)).head?.map (·.2)))))) a = some (.lst ys) ∧ ys.length = wr.sg ∧ ys[0]? = some .non ∧ ys[k]? = some (optV ((wr.env k).head?.map (·.2))) ∧
          (∀ (j : Nat) (s : Wr) (p : Nat), j < k → wr.subs[j]? = some s → p ∈ s.kids → ys[j + p]? = some (optV ((wr.env (j + p)).head?.map (·.2)))) ∧
          (∀ p ∈ s.kids.take (j + 1), ys[k + p]? = some (optV ((wr.env (k + p)).head?.map (·.2)))) := by
        refine ⟨_, _, rfl, same_put s4 a0, upd_same, by rw [List.length_set]; exact hx4, ?_, setF k hk4, fun j' s' p' h1 h2 h3 => setF _ (ho4 j' s' p' h1 h2 h3), fun p' hp' => ?_⟩
        · have h5 := setF 0 (by rw [Wr.env_zero]; exact h04)
          rw [Wr.env_zero] at h5
          exact h5
        · rw [take_snoc hp] at hp'
          rcases List.mem_append.mp hp' with z | z
          · exact setF _ (hn4 p' z)
          · rw [List.mem_singleton.mp z, List.getElem?_set_self (by omega)]
      refine ⟨_, rfl, rfl, _, rfl, ?_⟩
      cases s with
      | nm z => exact absurd hpm List.not_mem_nil
      | of x c =>
        refine iteT ⟨_, rfl, _, rfl, _, rfl, a, _, _, k + p, rfl, rfl, ha4, ixN_of (by omega), ?_⟩
        have e5 : optV ((wr.env (k + p)).head?.map (·.2)) = .int (k : Int) := by
          rw [List.mem_singleton.mp hpm, Wr.env_of hs]
          rfl
        rw [e5] at fin
        exact fin
      | to c d =>
        refine iteF ⟨_, rfl, _, rfl, a, _, _, _, rfl, rfl, SqL.of ha4, atI_nat hk4, _, rfl, _, rfl, a, _, _, k + p, rfl, rfl, ha4, ixN_of (by omega), ?_⟩
        have e5 : optV ((wr.env (k + p)).head?.map (·.2)) = optV ((wr.env k).head?.map (·.2)) := by
          rcases List.mem_cons.mp hpm with z | z
          · rw [z, Wr.env_one hs]
          · rw [List.mem_singleton.mp z, ← Nat.add_assoc, Wr.env_two hs]
        rw [e5] at fin
        exact fin
    · rintro σ H4 ⟨ys, v6, rfl, s4, ha4, hx4, h04, hk4, ho4, hn4⟩
      refine ⟨ys, _, _, _, _, rfl, s4, ha4, hx4, h04, fun j s' p h1 h2 h3 => ?_⟩
      by_cases c : j = k
      · subst c
        rw [hs] at h2
        cases h2
        refine hn4 p ?_
        unfold kidV
        rw [List.length_map, List.take_of_length_le (Nat.le_refl _)]
        exact h3
      · exact ho4 j s' p (by omega) h2 h3
  · rintro σ H2 ⟨xs, v3, v4, v5, v6, rfl, s2, ha2, hx, hx0, hxs⟩
    rw [hn] at hxs
    refine ⟨_, rfl, q a H2 s2 ⟨xs, ha2, hx, fun i hi => ?_⟩⟩
    by_cases c : i = 0
    · subst c
      rw [Wr.env_zero, hx0]
      rfl
    · obtain ⟨j, s', p, hj, hs', hp, rfl⟩ := Wr.has_par (w := wr) (i := i) (by omega) hi
      exact hxs j s' p (Wr.subs_lt hs') hs' hp
theorem ok_binder (F : Fun K "binder_of" "binder_of" sBinder f fd) (T : Bn mg) (Z : Lw mg) : FnOk P w K mg base CX0 1 f fd ["signs", "around", "at"] spBinder := by
  refine F.ok scBinder (fun vs H Q E h => ?_) (fun cdv A outer s H vs Q E hr h => ?_)
  · obtain ⟨g, a, wr, i, rfl, _⟩ := h
    rfl
  obtain ⟨g, a, wr, i, rfl, ⟨ts, hg, hgl, hgt⟩, ⟨xs, ha, hx, hxs⟩, hi, hsg, hok, q⟩ := h
  obtain ⟨tNm, gNm⟩ := Z.nm_
  refine ⟨_, (pss_cons (ps_asg (pe_ix ix_list (pv 0) (pv 2) (fun _ _ => rfl)) (pg_tup (by rfl) (pgs_cons (pg_name (i := 3) scBinder.nd rfl (.inl rfl)) (pgs_cons (pg_name (i := 4) scBinder.nd rfl (.inl rfl)) pgs_nil))))
      (pss_cons (ps_set (i := 5) scBinder.nd rfl (.inl rfl) (pe_ifExp (pt_cmpR op_eq (pv 3) (pe_glob (v := .str "name") rfl gNm ⟨_, rfl⟩) (nomark _)) (pe_ix ix_list (pv 1) (pv 2) (fun _ _ => rfl)) pe_non))
      (pss_cons (ps_while PassesOwn.never (PW.pt (pw_and (pt_cmpR op_notN (pv 5) pe_non (nomark _)) (pw_and1 (pt_cmpR op_ne (pe_ix ix_tup (pe_ix ix_list (pv 0) (pv 5) (fun _ _ => rfl)) pe_int (fun _ _ => rfl)) (pv 4) (nomark _)))))
        (pss_one (ps_set (i := 5) scBinder.nd rfl (.inl rfl) (pe_ix ix_list (pv 1) (pv 5) (fun _ _ => rfl)))))
      (pss_one (ps_ret (pv 5)))))), ?_⟩
  obtain ⟨s, hs⟩ := wr_get wr hi
  obtain ⟨t, ht⟩ : ∃ t, ts[i]? = some t := get_lt (by rw [hgl]; exact hi)
  have ht2 := hgt i s t hs ht
  have gat : ∀ {j : Nat} {t : Addr}, ts[j]? = some t → (ts.map V.ref)[j]? = some (V.ref t) := fun h => by rw [List.getElem?_map, h]; rfl
  refine ⟨_, rfl, _, rfl, g, _, _, .ref t, rfl, rfl, SqL.of hg, atI_nat (gat ht), t, _, rfl, SqT.of ht2, rfl, _, _, rfl, _, _, rfl, rfl, ?_⟩
  refine ⟨_, rfl, rfl, _, rfl, ?_⟩
  cases s with
  | of x b =>
    have e : wr.bnd i = none := by unfold Wr.bnd; rw [hs]
    rw [e] at q
    refine iteF ⟨fun m σ H2 => m = 0 ∧ H2 = H ∧ σ = [some (.ref g), some (.ref a), some (.int (i : Int)), some (.str "of"), some (.str x), some .non], ⟨0, rfl, rfl, rfl⟩, ?_⟩
    rintro m σ H2 ⟨rfl, rfl, rfl⟩
    exact ⟨_, rfl, rfl, _, rfl, iteF ⟨_, rfl, q⟩⟩
  | to b c =>
    have e : wr.bnd i = none := by unfold Wr.bnd; rw [hs]
    rw [e] at q
    refine iteF ⟨fun m σ H2 => m = 0 ∧ H2 = H ∧ σ = [some (.ref g), some (.ref a), some (.int (i : Int)), some (.str "to"), some .non, some .non], ⟨0, rfl, rfl, rfl⟩, ?_⟩
    rintro m σ H2 ⟨rfl, rfl, rfl⟩
    exact ⟨_, rfl, rfl, _, rfl, iteF ⟨_, rfl, q⟩⟩
  | nm z =>
    have e : wr.bnd i = Wr.find z (wr.env i) := by unfold Wr.bnd; rw [hs]
    rw [e] at q
    refine iteT ⟨_, rfl, _, rfl, a, _, _, _, rfl, rfl, SqL.of ha, atI_nat (hxs i hi), ?_⟩
    refine ⟨fun m σ H2 => ∃ (e : List (Str × Nat)), m = e.length ∧ H2 = H ∧ σ = [some (.ref g), some (.ref a), some (.int (i : Int)), some (.str "name"), some (.str z), some (optV (e.head?.map (·.2)))] ∧ wr.Chain e ∧ Wr.find z e = Wr.find z (wr.env i), ⟨_, wr.env i, rfl, rfl, rfl, wr.chain_env hi, rfl⟩, ?_⟩
    rintro m σ H2 ⟨e, rfl, rfl, rfl, hc, hf⟩
    cases e with
    | nil =>
      rw [← hf] at q
      exact ⟨_, rfl, rfl, _, rfl, iteF ⟨_, rfl, q⟩⟩
    | cons p e =>
      obtain ⟨x, j⟩ := p
      obtain ⟨⟨b, hb⟩, he, hc2⟩ := hc
      have hj := Wr.subs_lt hb
      obtain ⟨t2, ht3⟩ : ∃ t2, ts[j]? = some t2 := get_lt (by rw [hgl]; exact hj)
      have ht4 := hgt j _ t2 hb ht3
      have hf' : (if x = z then some j else Wr.find z e) = Wr.find z (wr.env i) := hf
      refine ⟨_, rfl, rfl, _, rfl, iteT ?_⟩
      refine ⟨_, rfl, _, rfl, g, _, _, .ref t2, rfl, rfl, SqL.of hg, atI_nat (gat ht3), t2, _, _, .str x, rfl, rfl, SqT.of ht4, rfl, _, rfl, rfl, _, rfl, ?_⟩
      by_cases c : x = z
      · rw [if_pos c] at hf'
        rw [← hf'] at q
        rw [show (!decide (V.str x = V.str z)) = false by simp [c]]
        exact iteF ⟨_, rfl, q⟩
      · rw [if_neg c] at hf'
        rw [show (!decide (V.str x = V.str z)) = true by simp [c]]
        refine iteT ⟨_, fun σ' H' z => z, ?_⟩
        have h5 := hxs j hj
        rw [he] at h5
        exact ⟨_, rfl, _, rfl, a, _, _, _, rfl, rfl, SqL.of ha, atI_nat h5, _, Nat.lt_succ_self _, e, rfl, rfl, rfl, hc2, hf'⟩
end
end TF07
/-! reading a writing off the heap; layouts whole -/
namespace TG
open PySem PySem.Spec L2
open PyProof.Rows hiding St
def SqA (K : PySem.W.Frag) (H : Hp) (a : Addr) (xs : List V) : Prop := SqL K H a xs ∨ SqT K H a xs
theorem SqA.same {K : PySem.W.Frag} {H H' : Hp} {a : Addr} {xs : List V} (h : SqA K H a xs) (s : Same H H') : SqA K H' a xs := h.imp (fun h => sqL_same h s) fun h => sqT_same h s
theorem ix_any {K : PySem.W.Frag} {H : Hp} {a : Addr} {xs : List V} {i : Nat} {v : V} {Q : VK} (h : SqA K H a xs) (e : xs[i]? = some v) (q : Q v H) : rIx K (.ref a) (.int (i : Int)) H Q := by
  rcases h with h | h
  · exact .inl ⟨a, xs, _, v, rfl, rfl, h, atI_nat e, q⟩
  · exact .inr (.inl ⟨a, xs, _, v, rfl, rfl, h, atI_nat e, q⟩)
theorem SqA.ty {K : PySem.W.Frag} {H : Hp} {a : Addr} {xs : List V} (h : SqA K H a xs) : ∃ n, HasTy K H (.ref a) n ∧ (n == "list" || n == "tuple") = true := by
  rcases h with h | h
  · exact ⟨_, .sqL h, rfl⟩
  · exact ⟨_, .sqT h, rfl⟩
theorem dp_nm {K : PySem.W.Frag} {H : Hp} {v : V} {d : PyData} {z : Str} (h : Dp K H v d) (t : Tells d (.nm z)) : v = .str z := by
  cases t
  cases h
  rfl
theorem dp_of {K : PySem.W.Frag} {H : Hp} {v : V} {d : PyData} {x : Str} {b : Wr} (h : Dp K H v d) (t : Tells d (.of x b)) : ∃ a ve e, v = .ref a ∧ SqA K H a [.str "of", .str x, ve] ∧ Dp K H ve e ∧ Tells e b := by
  cases t with
  | ofT t =>
    cases h with
    | tup h1 h2 =>
      obtain _ | ⟨g1, _ | ⟨g2, _ | ⟨g3, g4⟩⟩⟩ := h2
      cases g1; cases g2; cases g4
      exact ⟨_, _, _, rfl, .inr h1, g3, t⟩
  | ofL t =>
    cases h with
    | lst h1 h2 =>
      obtain _ | ⟨g1, _ | ⟨g2, _ | ⟨g3, g4⟩⟩⟩ := h2
      cases g1; cases g2; cases g4
      exact ⟨_, _, _, rfl, .inl h1, g3, t⟩
theorem dp_to {K : PySem.W.Frag} {H : Hp} {v : V} {d : PyData} {b c : Wr} (h : Dp K H v d) (t : Tells d (.to b c)) : ∃ a v1 e1 v2 e2, v = .ref a ∧ SqA K H a [.str "to", v1, v2] ∧ Dp K H v1 e1 ∧ Tells e1 b ∧ Dp K H v2 e2 ∧ Tells e2 c := by
  cases t with
  | toT t u =>
    cases h with
    | tup h1 h2 =>
      obtain _ | ⟨g1, _ | ⟨g2, _ | ⟨g3, g4⟩⟩⟩ := h2
      cases g1; cases g4
      exact ⟨_, _, _, _, _, rfl, .inr h1, g2, t, g3, u⟩
  | toL t u =>
    cases h with
    | lst h1 h2 =>
      obtain _ | ⟨g1, _ | ⟨g2, _ | ⟨g3, g4⟩⟩⟩ := h2
      cases g1; cases g4
      exact ⟨_, _, _, _, _, rfl, .inl h1, g2, t, g3, u⟩
/-- what is still to be read -/
structure SE where
  v : V
  d : PyData
  w : Wr
structure SEok (K : PySem.W.Frag) (H : Hp) (e : SE) : Prop where
  dp : Dp K H e.v e.d
  te : Tells e.d e.w
  ok : e.w.all okN = true
def seS (st : List SE) : List Wr := st.flatMap fun e => e.w.subs
def seN (st : List SE) : Nat := (st.map fun e => e.w.sg).sum
theorem seN_len : ∀ st : List SE, st.length ≤ seN st
  | [] => Nat.zero_le _
  | e :: st => by
    have h1 := e.w.sg_pos
    have h2 := seN_len st
    show st.length + 1 ≤ e.w.sg + seN st
    omega
theorem okN_short {z : Str} (h : okN z = true) : z.length ≤ 1000 := Nat.le_trans (ok_signs h).1 (by decide)
theorem drop_step {α : Type} {xs ys : List α} {n : Nat} {x : α} (h : xs.drop n = x :: ys) : xs[n]? = some x ∧ xs.drop (n + 1) = ys := by
  have h1 : xs[n]? = some x := by
    rw [← List.head?_drop, h]
    rfl
  refine ⟨h1, ?_⟩
  rw [← List.tail_drop, h]
  rfl
/-- the class, its object and the five lists -/
def layF (g e b a d : Addr) : List (Str × V) := [("signs", .ref g), ("ends", .ref e), ("below", .ref b), ("around", .ref a), ("binders", .ref d)]
def layF1 (g : Addr) : List (Str × V) := [("signs", .ref g)]
def layF2 (g e : Addr) : List (Str × V) := [("signs", .ref g), ("ends", .ref e)]
def layF3 (g e b : Addr) : List (Str × V) := [("signs", .ref g), ("ends", .ref e), ("below", .ref b)]
def layF4 (g e b a : Addr) : List (Str × V) := [("signs", .ref g), ("ends", .ref e), ("below", .ref b), ("around", .ref a)]
theorem putF_ne {f g : Str} {v x : V} {r : List (Str × V)} (h : (g == f) = false) : putF f v ((g, x) :: r) = (g, x) :: putF f v r := if_neg (by simpa using h)
theorem layF_2 (g e : Addr) : putF "ends" (.ref e) (layF1 g) = layF2 g e := putF_ne (by decide +kernel)
theorem layF_3 (g e b : Addr) : putF "below" (.ref b) (layF2 g e) = layF3 g e b := by
  unfold layF2
  rw [putF_ne (by decide +kernel), putF_ne (by decide +kernel)]
  rfl
theorem layF_4 (g e b a : Addr) : putF "around" (.ref a) (layF3 g e b) = layF4 g e b a := by
  unfold layF3
  rw [putF_ne (by decide +kernel), putF_ne (by decide +kernel), putF_ne (by decide +kernel)]
  rfl
theorem layF_5 (g e b a d : Addr) : putF "binders" (.ref d) (layF4 g e b a) = layF g e b a d := by
  unfold layF4
  rw [putF_ne (by decide +kernel), putF_ne (by decide +kernel), putF_ne (by decide +kernel), putF_ne (by decide +kernel)]
  rfl
theorem look_ne {f g : Str} {x : V} {r : List (Str × V)} (h : (f == g) = false) : ((g, x) :: r).lookup f = r.lookup f := by
  show (match f == g with | true => some x | false => r.lookup f) = _
  rw [h]
theorem lay_signs (g e b a d : Addr) : (layF g e b a d).lookup ("signs" : Str) = some (.ref g) := List.lookup_cons_self
theorem lay_ends (g e b a d : Addr) : (layF g e b a d).lookup ("ends" : Str) = some (.ref e) := by
  unfold layF
  rw [look_ne (by decide +kernel)]
  exact List.lookup_cons_self
theorem lay_below (g e b a d : Addr) : (layF g e b a d).lookup ("below" : Str) = some (.ref b) := by
  unfold layF
  rw [look_ne (by decide +kernel), look_ne (by decide +kernel)]
  exact List.lookup_cons_self
theorem lay_around (g e b a d : Addr) : (layF g e b a d).lookup ("around" : Str) = some (.ref a) := by
  unfold layF
  rw [look_ne (by decide +kernel), look_ne (by decide +kernel), look_ne (by decide +kernel)]
  exact List.lookup_cons_self
theorem lay_binders (g e b a d : Addr) : (layF g e b a d).lookup ("binders" : Str) = some (.ref d) := by
  unfold layF
  rw [look_ne (by decide +kernel), look_ne (by decide +kernel), look_ne (by decide +kernel), look_ne (by decide +kernel)]
  exact List.lookup_cons_self
theorem lay3_below (g e b : Addr) : (layF3 g e b).lookup ("below" : Str) = some (.ref b) := by
  unfold layF3
  rw [look_ne (by decide +kernel), look_ne (by decide +kernel)]
  exact List.lookup_cons_self
theorem lay4_around (g e b a : Addr) : (layF4 g e b a).lookup ("around" : Str) = some (.ref a) := by
  unfold layF4
  rw [look_ne (by decide +kernel), look_ne (by decide +kernel), look_ne (by decide +kernel)]
  exact List.lookup_cons_self
def LayAt (C : Addr) (H : Hp) (l : Addr) (w : Wr) : Prop := ∃ g e b a d dx, H l = some (.ins C dx (layF g e b a d)) ∧ SignsAt H g w ∧ EndsAt H e w ∧ BelowAt H b w ∧ AroundAt H a w ∧ BindAt H d w
theorem LayAt.same {C : Addr} {H H' : Hp} {l : Addr} {w : Wr} (h : LayAt C H l w) (s : Same H H') : LayAt C H' l w := by
  obtain ⟨g, e, b, a, d, dx, h0, h1, h2, h3, h4, h5⟩ := h
  exact ⟨g, e, b, a, d, dx, s _ _ h0, h1.same s, h2.same s, h3.same s, h4.same s, h5.same s⟩
def spSigns (K : PySem.W.Frag) : Sp := fun vs H Q _ => ∃ (v : V) (d : PyData) (w : Wr), vs = [v] ∧ Dp K H v d ∧ Tells d w ∧ w.all okN = true ∧ w.sg ≤ 2000 ∧
  ∀ (g : Addr) (H' : Hp), Same H H' → SignsAt H' g w → Q (.ref g) H'
def spLayI (C : Addr) : Sp := fun vs H Q _ => ∃ (p dx g : Addr) (w : Wr) (H0 : Hp), vs = [.ref p, .ref g] ∧ H p = some (.ins C dx []) ∧ SignsAt H0 g w ∧ Same H0 H ∧ H0 p = none ∧ w.sg ≤ 2000 ∧ w.all okN = true ∧
  ∀ (H' : Hp), Same H0 H' → LayAt C H' p w → Q .non H'
def spLaid (K : PySem.W.Frag) (C : Addr) : Sp := fun vs H Q _ => ∃ (v : V) (y : V) (d : PyData) (w : Wr), vs = [v, y] ∧ Dp K H v d ∧ Tells d w ∧ w.all okN = true ∧ w.sg ≤ 2000 ∧
  ∀ (l : Addr) (H' : Hp), Same H H' → LayAt C H' l w → Q (.ref l) H'
end TG
namespace TF07
open PySem PySem.Spec L2 TG TA
open PyProof.Rows hiding St
abbrev sSigns : Stmt := top 23
theorem scSigns : FnScope ["value", "signs", "left", "part"] ["value"] (defScope sSigns) := ⟨rfl, rfl, rfl, by decide +kernel, rfl, by decide +kernel, by decide +kernel⟩
section
variable {P : Program} {w : World} {K : PySem.W.Frag} {mg : Str → Option Value} {base : Heap} {f f1 : Addr} {fd fd1 : FuncData}
theorem ok_signs_in (F : Fun K "signs_in" "signs_in" sSigns f fd) (T : Bn mg) (Z : Lw mg) (D_is_name : Df K mg "is_name" sName f1 fd1 ["value"]) (G_is_name : FnOk P w K mg base CX0 3 f1 fd1 ["value"] (spName K)) : FnOk P w K mg base CX0 4 f fd ["value"] (spSigns K) := by
  refine F.ok scSigns (fun vs H Q E h => ?_) (fun cdv A outer s H vs Q E hr h => ?_)
  · obtain ⟨v, d, wr, rfl, _⟩ := h
    rfl
  obtain ⟨v, d, wr, rfl, hd, ht, hok, hsg, q⟩ := h
  obtain ⟨tOf, gOf⟩ := Z.of_
  obtain ⟨tTo, gTo⟩ := Z.to_
  obtain ⟨tNm, gNm⟩ := Z.nm_
  refine ⟨_, (pss_cons (ps_set (i := 1) scSigns.nd rfl (.inl rfl) (pe_lst pa_nil))
      (pss_cons (ps_set (i := 2) scSigns.nd rfl (.inl rfl) (pe_lst (pa_cons (pv 0) pa_nil)))
      (pss_cons (ps_while PassesOwn.never (pt_truth (pv 2) (by intro _; rfl))
        (pss_cons (ps_set (i := 3) scSigns.nd rfl (.inl rfl) (pe_bm0 PySem.F.plainAttrs_list PySem.F.slot_list_pop PySem.F.type_list_pop mt_pop (pv 2)))
        (pss_one (ps_if (pt_val (pe_cd D_is_name G_is_name hr (by decide) (pa_cons (pv 3) pa_nil))) (pss_one (ps_expr (pe_bm PySem.F.plainAttrs_list PySem.F.slot_list_append PySem.F.type_list_append mt_append (pv 1) (pa_cons (pe_tup (pa_cons (pe_glob (v := .str "name") rfl gNm ⟨_, rfl⟩) (pa_cons (pv 3) pa_nil))) pa_nil)))) (pss_one (ps_if (PW.pt (pw_or (pt_not (pt_val (pe_callB call_isiT (by rfl) T.b_isinstance (by decide +kernel) (pa_cons (pv 3) (pa_cons (pe_tup (pa_cons (pe_bltn (v := .ty "list") (u := .type "list") (by rfl) T.b_list (by decide +kernel) rfl) (pa_cons (pe_bltn (v := .ty "tuple") (u := .type "tuple") (by rfl) T.b_tuple (by decide +kernel) rfl) pa_nil))) pa_nil))))) (pw_or1 (pt_cmpR op_ne (pe_callB call_len_seq (by rfl) T.b_len (by decide +kernel) (pa_cons (pv 3) pa_nil)) pe_int (nomark _))))) (pss_one (ps_ret pe_non)) (pss_one (ps_if (PW.pt (pw_and (pt_cmpR op_eq (pe_ix ix_seq (pv 3) pe_int (fun _ _ => rfl)) (pe_glob (v := .str "of") rfl gOf ⟨_, rfl⟩) (nomark _)) (pw_and1 (pt_val (pe_cd D_is_name G_is_name hr (by decide) (pa_cons (pe_ix ix_seq (pv 3) pe_int (fun _ _ => rfl)) pa_nil)))))) (pss_cons (ps_expr (pe_bm PySem.F.plainAttrs_list PySem.F.slot_list_append PySem.F.type_list_append mt_append (pv 1) (pa_cons (pe_tup (pa_cons (pe_glob (v := .str "of") rfl gOf ⟨_, rfl⟩) (pa_cons (pe_ix ix_seq (pv 3) pe_int (fun _ _ => rfl)) pa_nil))) pa_nil)))
              (pss_one (ps_expr (pe_bm PySem.F.plainAttrs_list PySem.F.slot_list_append PySem.F.type_list_append mt_append (pv 2) (pa_cons (pe_ix ix_seq (pv 3) pe_int (fun _ _ => rfl)) pa_nil))))) (pss_one (ps_if (pt_cmpR op_eq (pe_ix ix_seq (pv 3) pe_int (fun _ _ => rfl)) (pe_glob (v := .str "to") rfl gTo ⟨_, rfl⟩) (nomark _)) (pss_cons (ps_expr (pe_bm PySem.F.plainAttrs_list PySem.F.slot_list_append PySem.F.type_list_append mt_append (pv 1) (pa_cons (pe_tup (pa_cons (pe_glob (v := .str "to") rfl gTo ⟨_, rfl⟩) (pa_cons pe_non pa_nil))) pa_nil)))
                (pss_one (ps_expr (pe_bm PySem.F.plainAttrs_list PySem.F.slot_list_extend PySem.F.type_list_extend mt_extend (pv 2) (pa_cons (pe_lst (pa_cons (pe_ix ix_seq (pv 3) pe_int (fun _ _ => rfl)) (pa_cons (pe_ix ix_seq (pv 3) pe_int (fun _ _ => rfl)) pa_nil))) pa_nil))))) (pss_one (ps_ret pe_non))))))))))))
      (pss_one (ps_ret (pv 1)))))), ?_⟩
  refine ⟨Nat.zero_le _, fun S hS => ⟨_, rfl, (by show 1 ≤ sizeLine; decide), fun L hL => ?_⟩⟩
  have S0 : H S = none := hS
  have s1 : Same H (L2.upd H S (.lst [])) := same_new hS
  have L0 : H L = none := s1.free hL
  have nSL : S ≠ L := ne_of_none upd_same hL
  refine ⟨fun m σ H2 => ∃ (st : List SE) (ts : List Addr) (v3 : Option V), m = seN st ∧ σ = [some v, some (.ref S), some (.ref L), v3] ∧ Same H H2 ∧ H2 L = some (.lst (st.reverse.map SE.v)) ∧ H2 S = some (.lst (ts.map V.ref)) ∧ (∀ e ∈ st, SEok K H e) ∧
    wr.subs.drop ts.length = seS st ∧ ts.length + seN st = wr.sg ∧ ∀ (i : Nat) (s : Wr) (t : Addr), wr.subs[i]? = some s → ts[i]? = some t → H2 t = some (.tup [.str s.wd, nvV s]), ⟨_, [⟨v, d, wr⟩], [], none, rfl, rfl, same_put s1 L0, by rw [upd_same]; rfl, by rw [upd_ne nSL, upd_same]; rfl, ?_, ?_, ?_, ?_⟩, ?_⟩
  · intro e he
    rw [List.mem_singleton.mp he]
    exact ⟨hd, ht, hok⟩
  · show wr.subs = wr.subs ++ []
    rw [List.append_nil]
  · show 0 + (wr.sg + 0) = wr.sg
    omega
  · intro i s t _ h
    cases h
  rintro m σ H2 ⟨st, ts, v3, rfl, rfl, s2, hl, hg, hst, hdr, hsum, hts⟩
  refine ⟨_, rfl, _, .inl ⟨_, SqL.of hl, rfl⟩, ?_⟩
  cases st with
  | nil =>
    refine iteF ⟨_, rfl, q S H2 s2 ⟨ts, hg, hsum, hts⟩⟩
  | cons e st =>
    obtain ⟨ev, ed, ew⟩ := e
    obtain ⟨e1, e2, e3⟩ := hst _ List.mem_cons_self
    simp only at e1 e2 e3
    have hst2 : ∀ e ∈ st, SEok K H e := fun e he => hst e (List.mem_cons_of_mem _ he)
    have eL : (((⟨ev, ed, ew⟩ : SE) :: st).reverse.map SE.v) = st.reverse.map SE.v ++ [ev] := by
      rw [List.reverse_cons, List.map_append]
      rfl
    rw [eL] at hl ⊢
    have hne : (!(st.reverse.map SE.v ++ [ev]).isEmpty) = true := by simp
    rw [hne]
    have hsum2 : ts.length + (ew.sg + seN st) = wr.sg := hsum
    have ewp := ew.sg_pos
    have hdr2 : wr.subs.drop ts.length = ew.subs ++ seS st := hdr
    have tsl : ts.length + 1 < sizeLine := small_le (by omega)
    refine iteT ⟨_, fun σ' H' z => z, ?_⟩
    refine ⟨_, rfl, .inl ⟨rfl, _, SqL.of hl⟩, L, _, ev, rfl, rfl, hl, last_snoc _ _, ?_⟩
    rw [List.dropLast_concat]
    have s3 : Same H (L2.upd H2 L (.lst (st.reverse.map SE.v))) := same_put s2 L0
    have k3 : ∀ b u, b ≠ L → H2 b = some u → (L2.upd H2 L (.lst (st.reverse.map SE.v))) b = some u := fun b u n e => by rw [upd_ne n]; exact e
    have hl3 : (L2.upd H2 L (.lst (st.reverse.map SE.v))) L = some (.lst (st.reverse.map SE.v)) := upd_same
    have hg3 := k3 _ _ nSL hg
    have tL : ∀ {i : Nat} {s : Wr} {t : Addr}, wr.subs[i]? = some s → ts[i]? = some t → t ≠ L ∧ t ≠ S := fun h1 h2 => by
      have h3 := hts _ _ _ h1 h2
      exact ⟨ne_of h3 hl (by intro z; cases z), ne_of h3 hg (by intro z; cases z)⟩
    have hts3 : ∀ (i : Nat) (s : Wr) (t : Addr), wr.subs[i]? = some s → ts[i]? = some t → (L2.upd H2 L (.lst (st.reverse.map SE.v))) t = some (.tup [.str s.wd, nvV s]) := fun i s t h1 h2 => k3 _ _ (tL h1 h2).1 (hts i s t h1 h2)
    generalize (L2.upd H2 L (.lst (st.reverse.map SE.v))) = H3 at s3 hl3 hg3 hts3 ⊢
    have app : ∀ (H4 : Hp) (t : Addr) (s' : Wr), Same H3 H4 → H4 t = none → wr.subs[ts.length]? = some s' → ∀ H5 : Hp, (∀ b u, b ≠ S → b ≠ L → (L2.upd H4 t (.tup [.str s'.wd, nvV s'])) b = some u → H5 b = some u) →
        ∀ (i : Nat) (s : Wr) (t' : Addr), wr.subs[i]? = some s → (ts ++ [t])[i]? = some t' → H5 t' = some (.tup [.str s.wd, nvV s]) := by
      intro H4 t s' s4 ht0 d1 H5 k5 i s0 t' h1 h2
      by_cases c : i < ts.length
      · rw [List.getElem?_append_left c] at h2
        have h3 := s4 _ _ (hts3 i s0 t' h1 h2)
        exact k5 _ _ (tL h1 h2).2 (tL h1 h2).1 (by rw [upd_ne (ne_of_none h3 ht0)]; exact h3)
      · have hi : i = ts.length := by
          have := lt_get h2
          rw [List.length_append] at this
          have : i < ts.length + 1 := this
          omega
        subst hi
        rw [List.getElem?_append_right (Nat.le_refl _), Nat.sub_self] at h2
        cases h2
        rw [d1] at h1
        cases h1
        exact k5 _ _ (Ne.symm (ne_of_none (s4 _ _ hg3) ht0)) (Ne.symm (ne_of_none (s4 _ _ hl3) ht0)) upd_same
    cases ew with
    | nm z =>
      obtain rfl := dp_nm e1 e2
      refine ⟨_, rfl, .str z, "str", rfl, HasTy.str z, (fun y hy => by cases hy; exact okN_short e3), fun H4 s4 => ?_⟩
      have hn : nameV (.str z) = true := (nameB_ok z).trans e3
      rw [hn]
      refine ⟨_, rfl, iteT ?_⟩
      refine ⟨_, rfl, .inl ⟨rfl, _, SqL.of (s4 _ _ hg3)⟩, _, rfl, (by show 2 ≤ sizeLine; decide), fun t ht0 => ?_⟩
      have nSt : S ≠ t := ne_of_none (s4 _ _ hg3) ht0
      have nLt : L ≠ t := ne_of_none (s4 _ _ hl3) ht0
      have s5 : Same H (L2.upd H4 t (.tup [.str "name", .str z])) := (s3.trans s4).trans (same_new ht0)
      refine ⟨S, _, _, rfl, rfl, by rw [upd_ne nSt]; exact s4 _ _ hg3, by rw [List.length_map]; omega, ?_⟩
      obtain ⟨d1, d2⟩ := drop_step (show wr.subs.drop ts.length = .nm z :: seS st from hdr2)
      refine ⟨_, (by show seN st < 1 + seN st; omega), st, ts ++ [t], _, rfl, rfl, same_put s5 S0, by rw [upd_ne (Ne.symm nSL), upd_ne nLt]; exact s4 _ _ hl3, by rw [upd_same, List.map_append]; rfl, hst2, by rw [List.length_append]; exact d2, by rw [List.length_append]; have : ts.length + (1 + seN st) = wr.sg := hsum2; show ts.length + 1 + seN st = wr.sg; omega, fun i s' t' h1 h2 => ?_⟩
      exact app H4 t _ s4 ht0 d1 _ (fun b u n1 n2 e => by rw [upd_ne n1]; exact e) i s' t' h1 h2
    | of x b =>
      obtain ⟨ea, ve, eb, rfl, hq, h1, h2⟩ := dp_of e1 e2
      obtain ⟨n, hty, hn⟩ := hq.ty
      have okx := (Bool.and_eq_true_iff.mp e3).1
      have okb := (Bool.and_eq_true_iff.mp e3).2
      refine ⟨_, rfl, .ref ea, n, rfl, hty.same s3, (fun y hy => nomatch hy), fun H4 s4 => ⟨_, rfl, iteF ?_⟩⟩
      have s4' := s3.trans s4
      refine ⟨_, rfl, (by show 2 ≤ sizeLine; decide), fun tp htp => ?_⟩
      have s5 := s4.trans (same_new (o := .tup [.ty "list", .ty "tuple"]) htp)
      have s5' := s3.trans s5
      refine ⟨.ref ea, tp, _, _, [.type "list", .type "tuple"], _, rfl, upd_same, .cons (.ty _) (.cons (.ty _) .nil), tyx_same hty.1 s5', kit_lt hty.2, _, rfl, ?_⟩
      rw [hn]
      refine iteF ?_
      refine ⟨_, rfl, ea, _, rfl, hq.same s5', rfl, _, rfl, iteF ?_⟩
      refine ⟨_, rfl, ix_any (i := 0) (hq.same s5') rfl ⟨rfl, _, rfl, iteT ?_⟩⟩
      refine ⟨_, rfl, ix_any (i := 1) (hq.same s5') rfl ⟨.str x, "str", rfl, HasTy.str x, (fun y hy => by cases hy; exact okN_short okx), fun H6 s6 => ?_⟩⟩
      have hnx : nameV (.str x) = true := (nameB_ok x).trans okx
      rw [hnx]
      have s6' := s5.trans s6
      have s6h := s3.trans s6'
      refine ⟨_, rfl, iteT ?_⟩
      refine ⟨_, rfl, .inl ⟨rfl, _, SqL.of (s6' _ _ hg3)⟩, _, rfl, ix_any (i := 1) (hq.same s6h) rfl ⟨(by show 2 ≤ sizeLine; decide), fun t ht0 => ?_⟩⟩
      have nSt : S ≠ t := ne_of_none (s6' _ _ hg3) ht0
      have nLt : L ≠ t := ne_of_none (s6' _ _ hl3) ht0
      have s7 : Same H (L2.upd H6 t (.tup [.str "of", .str x])) := s6h.trans (same_new ht0)
      refine ⟨S, _, _, rfl, rfl, by rw [upd_ne nSt]; exact s6' _ _ hg3, by rw [List.length_map]; omega, ?_⟩
      have hl7 : ∀ o, (L2.upd (L2.upd H6 t (.tup [.str "of", .str x])) S o) L = some (.lst (st.reverse.map SE.v)) := fun o => by rw [upd_ne (Ne.symm nSL), upd_ne nLt]; exact s6' _ _ hl3
      have s8 : ∀ o, Same H (L2.upd (L2.upd H6 t (.tup [.str "of", .str x])) S o) := fun o => same_put s7 S0
      have hsum3 : ts.length + (b.sg + 1 + seN st) = wr.sg := hsum2
      have stl := seN_len st
      refine ⟨_, rfl, .inl ⟨rfl, _, SqL.of (hl7 _)⟩, _, rfl, ix_any (i := 2) (hq.same (s8 _)) rfl ⟨L, _, _, rfl, rfl, hl7 _, by rw [List.length_map, List.length_reverse]; exact small_le (by omega), ?_⟩⟩
      obtain ⟨d1, d2⟩ := drop_step (show wr.subs.drop ts.length = .of x b :: (b.subs ++ seS st) from hdr2)
      refine ⟨_, (by show b.sg + seN st < (b.sg + 1) + seN st; omega), ⟨ve, eb, b⟩ :: st, ts ++ [t], _, rfl, rfl, same_put (s8 _) L0, by rw [upd_same, List.reverse_cons, List.map_append]; rfl, by rw [upd_ne nSL, upd_same, List.map_append]; rfl, ?_, by rw [List.length_append]; exact d2, by rw [List.length_append]; show ts.length + 1 + (b.sg + seN st) = wr.sg; omega, fun i s' t' h1 h2 => ?_⟩
      · intro e he
        rcases List.mem_cons.mp he with rfl | he
        · exact ⟨h1, h2, okb⟩
        · exact hst2 e he
      · exact app H6 t _ s6' ht0 d1 _ (fun b u n1 n2 e => by rw [upd_ne n2, upd_ne n1]; exact e) i s' t' h1 h2
    | to b c =>
      obtain ⟨ea, v1, eb1, v2, eb2, rfl, hq, h1, h2, h3, h4⟩ := dp_to e1 e2
      obtain ⟨n, hty, hn⟩ := hq.ty
      have okb := (Bool.and_eq_true_iff.mp e3).1
      have okc := (Bool.and_eq_true_iff.mp e3).2
      refine ⟨_, rfl, .ref ea, n, rfl, hty.same s3, (fun y hy => nomatch hy), fun H4 s4 => ⟨_, rfl, iteF ?_⟩⟩
      have s4' := s3.trans s4
      refine ⟨_, rfl, (by show 2 ≤ sizeLine; decide), fun tp htp => ?_⟩
      have s5 := s4.trans (same_new (o := .tup [.ty "list", .ty "tuple"]) htp)
      have s5' := s3.trans s5
      refine ⟨.ref ea, tp, _, _, [.type "list", .type "tuple"], _, rfl, upd_same, .cons (.ty _) (.cons (.ty _) .nil), tyx_same hty.1 s5', kit_lt hty.2, _, rfl, ?_⟩
      rw [hn]
      refine iteF ?_
      refine ⟨_, rfl, ea, _, rfl, hq.same s5', rfl, _, rfl, iteF ?_⟩
      refine ⟨_, rfl, ix_any (i := 0) (hq.same s5') rfl ⟨rfl, _, rfl, ?_⟩⟩
      rw [show decide (V.str "to" = V.str "of") = false by decide +kernel]
      refine iteF (iteF ?_)
      refine ⟨_, rfl, ix_any (i := 0) (hq.same s5') rfl ⟨rfl, _, rfl, iteT ?_⟩⟩
      refine ⟨_, rfl, .inl ⟨rfl, _, SqL.of (s5 _ _ hg3)⟩, (by show 2 ≤ sizeLine; decide), fun t ht0 => ?_⟩
      generalize (L2.upd H4 tp (.tup [.ty "list", .ty "tuple"])) = H6 at s5 s5' ht0 ⊢
      have nSt : S ≠ t := ne_of_none (s5 _ _ hg3) ht0
      have nLt : L ≠ t := ne_of_none (s5 _ _ hl3) ht0
      have s7 : Same H (L2.upd H6 t (.tup [.str "to", .non])) := s5'.trans (same_new ht0)
      refine ⟨S, _, _, rfl, rfl, by rw [upd_ne nSt]; exact s5 _ _ hg3, by rw [List.length_map]; omega, ?_⟩
      have hl7 : ∀ o, (L2.upd (L2.upd H6 t (.tup [.str "to", .non])) S o) L = some (.lst (st.reverse.map SE.v)) := fun o => by rw [upd_ne (Ne.symm nSL), upd_ne nLt]; exact s5 _ _ hl3
      have hs7 : ∀ o, (L2.upd (L2.upd H6 t (.tup [.str "to", .non])) S o) S = some o := fun o => upd_same
      have ht7 : ∀ o b u, b ≠ S → (L2.upd H6 t (.tup [.str "to", .non])) b = some u → (L2.upd (L2.upd H6 t (.tup [.str "to", .non])) S o) b = some u := fun o b u n e => by rw [upd_ne n]; exact e
      have s8 : ∀ o, Same H (L2.upd (L2.upd H6 t (.tup [.str "to", .non])) S o) := fun o => same_put s7 S0
      have hsum3 : ts.length + (b.sg + c.sg + 1 + seN st) = wr.sg := hsum2
      have stl := seN_len st
      refine ⟨_, rfl, .inl ⟨rfl, _, SqL.of (hl7 _)⟩, _, rfl, ix_any (i := 2) (hq.same (s8 _)) rfl ⟨_, rfl, ix_any (i := 1) (hq.same (s8 _)) rfl ⟨(by show 2 ≤ sizeLine; decide), fun z hz => ?_⟩⟩⟩
      have nLz : L ≠ z := ne_of_none (hl7 _) hz
      have nSz : S ≠ z := ne_of_none (hs7 _) hz
      refine ⟨L, z, _, _, rfl, rfl, by rw [upd_ne nLz]; exact hl7 _, upd_same, by rw [List.length_map, List.length_reverse]; exact Nat.le_of_lt (small_le (by show st.length + 2 ≤ 1000000; omega)), ?_⟩
      obtain ⟨d1, d2⟩ := drop_step (show wr.subs.drop ts.length = .to b c :: ((b.subs ++ c.subs) ++ seS st) from hdr2)
      refine ⟨_, (by show b.sg + (c.sg + seN st) < (b.sg + c.sg + 1) + seN st; omega), ⟨v1, eb1, b⟩ :: ⟨v2, eb2, c⟩ :: st, ts ++ [t], _, rfl, rfl, same_put ((s8 _).trans (same_new hz)) L0, by rw [upd_same, List.reverse_cons, List.reverse_cons, List.map_append, List.map_append, List.append_assoc]; rfl, by rw [upd_ne nSL, upd_ne nSz, upd_same, List.map_append]; rfl, ?_, by rw [List.length_append]; exact d2.trans (by rw [List.append_assoc]; rfl), by rw [List.length_append]; show ts.length + 1 + (b.sg + (c.sg + seN st)) = wr.sg; omega, fun i s' t' h1 h2 => ?_⟩
      · intro e he
        rcases List.mem_cons.mp he with rfl | he
        · exact ⟨h1, h2, okb⟩
        rcases List.mem_cons.mp he with rfl | he
        · exact ⟨h3, h4, okc⟩
        · exact hst2 e he
      · exact app H6 t _ s5 ht0 d1 _ (fun b u n1 n2 e => by rw [upd_ne n2, upd_ne (ne_of_none (ht7 _ b u n1 e) hz)]; exact ht7 _ b u n1 e) i s' t' h1 h2
end
end TF07
namespace TF07
open PySem PySem.Spec L2 TG TA
open PyProof.Rows hiding St
abbrev sLayI : Stmt := inClass (top 20) 0
abbrev sLaid : Stmt := top 24
theorem scLayI : FnScope ["self", "signs", "word", "_", "at"] ["self", "signs"] (defScope sLayI) := ⟨rfl, rfl, rfl, by decide +kernel, rfl, by decide +kernel, by decide +kernel⟩
theorem scLaid : FnScope ["value", "part", "signs"] ["value", "part"] (defScope sLaid) := ⟨rfl, rfl, rfl, by decide +kernel, rfl, by decide +kernel, by decide +kernel⟩
section
variable {P : Program} {w : World} {K : PySem.W.Frag} {mg : Str → Option Value} {base : Heap} {f f1 f2 f3 : Addr} {fd fd1 fd2 fd3 : FuncData}
theorem ok_layI {C : Addr} (F : Fun K "__init__" "Layout.__init__" sLayI f fd) (T : Bn mg) (Z : LayC K mg C f) (D_bounds_in : Df K mg "bounds_in" sBounds f1 fd1 ["row"]) (G_bounds_in : FnOk P w K mg base CX0 1 f1 fd1 ["row"] spBounds)
    (D_ofs_around : Df K mg "ofs_around" sAround f2 fd2 ["signs", "below"]) (G_ofs_around : FnOk P w K mg base CX0 1 f2 fd2 ["signs", "below"] spAround)
    (D_binder_of : Df K mg "binder_of" sBinder f3 fd3 ["signs", "around", "at"]) (G_binder_of : FnOk P w K mg base CX0 1 f3 fd3 ["signs", "around", "at"] spBinder) : FnOk P w K mg base CX0 2 f fd ["self", "signs"] (spLayI C) := by
  refine F.ok scLayI (fun vs H Q E h => ?_) (fun cdv A outer s H vs Q E hr h => ?_)
  · obtain ⟨p, dx, g, wr, H0, rfl, _⟩ := h
    rfl
  obtain ⟨p, dx, g, wr, H0, rfl, hp, hsg, s0, p0, hn, hok, q⟩ := h
  refine ⟨_, (pss_cons (ps_fld (pv 0) (pv 1) rfl)
      (pss_cons (ps_asg (pe_cd D_bounds_in G_bounds_in hr (by decide) (pa_cons (pe_lc (own := [("word", 2), ("_", 3)]) (g := (gTup K 2 (gCons (gName 2) (gCons (gName 3) gNil)))) (by rfl) scLayI.nd (pi_list (pv 1)) (blkOk_by (own := [("word", 2), ("_", 3)]) (N := ["self", "signs", "word", "_", "at"]) (sc := defScope sLayI) (by decide +kernel)) (fun _ _ _ _ _ => (pg_tup (by rfl) (pgs_cons (pg_name (i := 2) scLayI.nd rfl (.inl rfl)) (pgs_cons (pg_name (i := 3) scLayI.nd rfl (.inl rfl)) pgs_nil)))) (fun _ _ _ _ _ => pts_nil) (fun _ _ _ _ _ => (pv 2))) pa_nil)) (pg_tup (by rfl) (pgs_cons (pg_fld (pv 0)) (pgs_cons (pg_fld (pv 0)) pgs_nil))))
      (pss_cons (ps_fld (pv 0) (pe_cd D_ofs_around G_ofs_around hr (by decide) (pa_cons (pv 1) (pa_cons (pe_fld (pv 0) (by rfl)) pa_nil))) rfl)
      (pss_one (ps_fld (pv 0) (pe_lc (own := [("at", 4)]) (g := (gName 4)) (by rfl) scLayI.nd (pi_range1 (by rfl) T.b_range (pa_cons (pe_callB call_len_seq (by rfl) T.b_len (by decide +kernel) (pa_cons (pv 1) pa_nil)) pa_nil)) (blkOk_by (own := [("at", 4)]) (N := ["self", "signs", "word", "_", "at"]) (sc := defScope sLayI) (by decide +kernel)) (fun _ _ _ _ _ => (pg_name (i := 4) scLayI.nd rfl (.inl rfl))) (fun _ _ _ _ _ => pts_nil) (fun _ _ _ _ _ => (pe_cd D_binder_of G_binder_of hr (by decide) (pa_cons (pv 1) (pa_cons (show PE _ _ (tFld K (tVar 0) "around") from pe_fld (pv 0) (by rfl)) (pa_cons (pv 4) pa_nil)))))) rfl))))), ?_⟩
  refine ⟨_, rfl, _, rfl, p, C, dx, [], rfl, hp, Z.cl, Z.nS, (by show 0 < 1000; decide), ?_⟩
  have s1 : Same H0 (L2.upd H p (.ins C dx (layF1 g))) := same_put s0 p0
  rw [show putF ("signs" : Str) (V.ref g) [] = layF1 g from rfl]
  have hp1 : (L2.upd H p (.ins C dx (layF1 g))) p = some (.ins C dx (layF1 g)) := upd_same
  generalize (L2.upd H p (.ins C dx (layF1 g))) = H1 at s1 hp1 ⊢
  obtain ⟨ts, hg, hgl, hgt⟩ := hsg
  have hnl : (ts.map V.ref).length = wr.sg := by rw [List.length_map, hgl]
  refine ⟨_, rfl, g, rfl, ⟨_, SqL.of (s1 _ _ hg)⟩, fun D hD => ?_⟩
  have D0 : H0 D = none := s1.free hD
  have nDp : D ≠ p := Ne.symm (ne_of_none hp1 hD)
  refine lc_it (walk_list (xs := ts.map V.ref)) (fun i H2 => Same H1 H2 ∧ H2 D = some (.lst ((wdV wr).take i))) ?_ ?_ ?_ ?_
  · exact ⟨same_new hD, by rw [upd_same, List.take_zero]⟩
  · rintro i H2 _ ⟨s2, _⟩
    exact SqL.of (s2 _ _ (s1 _ _ hg))
  · rintro i x H2 H3 hi ⟨s2, h2⟩ ⟨rfl, hx⟩
    rw [List.getElem?_map] at hx
    obtain ⟨t, ht, rfl⟩ := Option.map_eq_some_iff.mp hx
    rw [hnl] at hi
    obtain ⟨s', hs'⟩ := wr_get wr hi
    have ht2 := s2 _ _ (s1 _ _ (hgt i s' t hs' ht))
    refine ⟨t, _, rfl, SqT.of ht2, rfl, _, _, rfl, _, _, rfl, rfl, rfl, _, rfl, _, h2, by rw [List.length_take, wdV_len]; exact small_le (by omega), ?_, ?_⟩
    · exact same_put s2 hD
    · rw [upd_same, take_snoc (wdV_at hs')]
  rintro H2 ⟨s2, h2⟩
  rw [hnl, List.take_of_length_le (by rw [wdV_len]; exact Nat.le_refl _)] at h2
  have hp2 := s2 _ _ hp1
  refine ⟨D, wr, rfl, h2, hn, fun t e b H3 s3 ht he hb => ?_⟩
  have hp3 := s3 _ _ hp2
  have s13 : Same H0 H3 := s1.trans (s2.trans s3)
  refine ⟨t, _, rfl, SqT.of ht, rfl, _, _, rfl, _, rfl, p, C, dx, _, rfl, hp3, Z.cl, Z.nE, (by show 1 < 1000; decide), ?_⟩
  rw [layF_2]
  refine ⟨_, _, rfl, _, rfl, p, C, dx, _, rfl, upd_same, Z.cl, Z.nB, (by show 2 < 1000; decide), ?_⟩
  rw [layF_3]
  refine ⟨rfl, ?_⟩
  have s4 : Same H0 (L2.upd (L2.upd H3 p (.ins C dx (layF2 g e))) p (.ins C dx (layF3 g e b))) := same_put (same_put s13 p0) p0
  have k4 : ∀ b' u, b' ≠ p → H3 b' = some u → (L2.upd (L2.upd H3 p (.ins C dx (layF2 g e))) p (.ins C dx (layF3 g e b))) b' = some u := fun b' u n h => by rw [upd_ne n, upd_ne n]; exact h
  have hp4 : (L2.upd (L2.upd H3 p (.ins C dx (layF2 g e))) p (.ins C dx (layF3 g e b))) p = some (.ins C dx (layF3 g e b)) := upd_same
  generalize (L2.upd (L2.upd H3 p (.ins C dx (layF2 g e))) p (.ins C dx (layF3 g e b))) = H4 at s4 k4 hp4 ⊢
  have sg4 : SignsAt H4 g wr := SignsAt.same ⟨ts, hg, hgl, hgt⟩ s4
  have ne_p : ∀ {c : Addr} {xs : List V}, H3 c = some (.lst xs) → c ≠ p := fun h => ne_of h hp3 (by intro z; cases z)
  have he4 : EndsAt H4 e wr := let ⟨xs, h1, h2, h3⟩ := he; ⟨xs, k4 _ _ (ne_p h1) h1, h2, h3⟩
  have hb4 : BelowAt H4 b wr := let ⟨bs, h1, h2, h3⟩ := hb; ⟨bs, k4 _ _ (ne_p h1) h1, h2, fun i s' a' z1 z2 => k4 _ _ (ne_p (h3 i s' a' z1 z2)) (h3 i s' a' z1 z2)⟩
  refine ⟨_, rfl, _, rfl, p, C, dx, _, _, rfl, hp4, Z.cl, Z.nB, lay3_below g e b, g, b, wr, rfl, sg4, hb4, hn, fun a H5 s5 ha => ?_⟩
  have hp5 := s5 _ _ hp4
  refine ⟨_, rfl, p, C, dx, _, rfl, hp5, Z.cl, Z.nA, (by show 3 < 1000; decide), ?_⟩
  rw [layF_4]
  have s6 : Same H0 (L2.upd H5 p (.ins C dx (layF4 g e b a))) := same_put (s4.trans s5) p0
  have k6 : ∀ b' u, b' ≠ p → H5 b' = some u → (L2.upd H5 p (.ins C dx (layF4 g e b a))) b' = some u := fun b' u n h => by rw [upd_ne n]; exact h
  have hp6 : (L2.upd H5 p (.ins C dx (layF4 g e b a))) p = some (.ins C dx (layF4 g e b a)) := upd_same
  generalize (L2.upd H5 p (.ins C dx (layF4 g e b a))) = H6 at s6 k6 hp6 ⊢
  have ne_q : ∀ {c : Addr} {xs : List V}, H5 c = some (.lst xs) → c ≠ p := fun h => ne_of h hp5 (by intro z; cases z)
  have sg6 : SignsAt H6 g wr := SignsAt.same ⟨ts, hg, hgl, hgt⟩ s6
  have he6 : EndsAt H6 e wr := let ⟨xs, h1, h2, h3⟩ := he4.same s5; ⟨xs, k6 _ _ (ne_q h1) h1, h2, h3⟩
  have hb6 : BelowAt H6 b wr := let ⟨bs, h1, h2, h3⟩ := hb4.same s5; ⟨bs, k6 _ _ (ne_q h1) h1, h2, fun i s' a' z1 z2 => k6 _ _ (ne_q (h3 i s' a' z1 z2)) (h3 i s' a' z1 z2)⟩
  have ha6 : AroundAt H6 a wr := let ⟨xs, h1, h2, h3⟩ := ha; ⟨xs, k6 _ _ (ne_q h1) h1, h2, h3⟩
  refine ⟨_, rfl, g, _, rfl, .inl (SqL.of (s6 _ _ hg)), _, rfl, by omega, by rw [hnl]; omega, fun D2 hD2 => ?_⟩
  rw [hnl]
  have nDp2 : p ≠ D2 := ne_of_none hp6 hD2
  refine lc_range (lo := 0) (n := wr.sg) (fun i H7 => ∃ xs : List V, Same H6 H7 ∧ H7 D2 = some (.lst xs) ∧ xs.length = i ∧ ∀ j, j < i → xs[j]? = some (optV (wr.bnd j))) ?_ ?_ ?_
  · exact ⟨[], same_new hD2, upd_same, rfl, fun j hj => absurd hj (Nat.not_lt_zero j)⟩
  · rintro i H7 hi ⟨xs, s7, h7, hx, hxs⟩
    have hp7 := s7 _ _ hp6
    refine ⟨rfl, _, rfl, _, rfl, p, C, dx, _, _, rfl, hp7, Z.cl, Z.nA, lay4_around g e b a, _, rfl, g, a, wr, i, ?_, sg6.same s7, ha6.same s7, hi, hn, hok, xs, h7, small_le (by omega), xs ++ [optV (wr.bnd i)], same_put s7 hD2, upd_same, by rw [List.length_append, hx]; rfl, fun j hj => ?_⟩
    · show [V.ref g, V.ref a, V.int (0 + (i : Int))] = [V.ref g, V.ref a, V.int (i : Int)]
      rw [Int.zero_add]
    · by_cases c : j < i
      · rw [List.getElem?_append_left (by omega)]
        exact hxs j c
      · obtain rfl : j = i := by omega
        rw [List.getElem?_append_right (by omega), hx, Nat.sub_self]
        rfl
  rintro H7 ⟨xs, s7, h7, hx, hxs⟩
  have hp7 := s7 _ _ hp6
  refine ⟨_, rfl, p, C, dx, _, rfl, hp7, Z.cl, Z.nI, (by show 4 < 1000; decide), ?_⟩
  rw [layF_5]
  have k8 : ∀ b' u, b' ≠ p → H7 b' = some u → (L2.upd H7 p (.ins C dx (layF g e b a D2))) b' = some u := fun b' u n h => by rw [upd_ne n]; exact h
  have ne_r : ∀ {c : Addr} {xs : List V}, H7 c = some (.lst xs) → c ≠ p := fun h => ne_of h hp7 (by intro z; cases z)
  refine q _ (same_put (s6.trans s7) p0) ⟨g, e, b, a, D2, dx, upd_same, SignsAt.same ⟨ts, hg, hgl, hgt⟩ (same_put (s6.trans s7) p0), ?_, ?_, ?_, ?_⟩
  · exact let ⟨xs, h1, h2, h3⟩ := he6.same s7; ⟨xs, k8 _ _ (ne_r h1) h1, h2, h3⟩
  · exact let ⟨bs, h1, h2, h3⟩ := hb6.same s7; ⟨bs, k8 _ _ (ne_r h1) h1, h2, fun i s' a' z1 z2 => k8 _ _ (ne_r (h3 i s' a' z1 z2)) (h3 i s' a' z1 z2)⟩
  · exact let ⟨xs, h1, h2, h3⟩ := ha6.same s7; ⟨xs, k8 _ _ (ne_r h1) h1, h2, h3⟩
  · exact ⟨xs, k8 _ _ (ne_r h7) h7, hx, fun i hi => hxs i hi⟩
theorem ok_laid {C : Addr} (F : Fun K "laid_out" "laid_out" sLaid f fd) (T : Bn mg) (Z : LayC K mg C f2) (D_signs_in : Df K mg "signs_in" sSigns f1 fd1 ["value"]) (G_signs_in : FnOk P w K mg base CX0 4 f1 fd1 ["value"] (spSigns K))
    (bI : Binds K fd2 ["self", "signs"] []) (G_Layout : FnOk P w K mg base CX0 2 f2 fd2 ["self", "signs"] (spLayI C)) : FnOk P w K mg base CX0 5 f fd ["value", "part"] (spLaid K C) := by
  refine F.ok scLaid (fun vs H Q E h => ?_) (fun cdv A outer s H vs Q E hr h => ?_)
  · obtain ⟨v, y, d, wr, rfl, _⟩ := h
    rfl
  obtain ⟨v, y, d, wr, rfl, hd, ht, hok, hn, q⟩ := h
  refine ⟨_, (pss_cons (ps_set (i := 2) scLaid.nd rfl (.inl rfl) (pe_cd D_signs_in G_signs_in hr (by decide) (pa_cons (pv 0) pa_nil)))
      (pss_cons (ps_if (pt_cmpR op_isN (pv 2) pe_non (nomark _)) (pss_one ps_never) pss_nil)
      (pss_one (ps_ret (pe_make Z.mk_ G_Layout (hr.mono (by decide)) rfl Z.mgC bI .nil pass0 (pa_cons (pv 2) pa_nil)))))), ?_⟩
  refine ⟨_, rfl, v, d, wr, rfl, hd, ht, hok, hn, fun g H1 s1 hg => ⟨_, rfl, rfl, _, rfl, iteF ?_⟩⟩
  refine ⟨_, rfl, fun x dx hx hdx ne => ?_⟩
  have s2 : Same H1 (L2.upd (L2.upd H1 dx (.own x)) x (.ins C dx [])) := same_put (same_new hdx) hx
  exact ⟨x, dx, g, wr, H1, rfl, upd_same, hg, s2, hx, hn, hok, fun H2 s3 hl => ⟨rfl, q x H2 (s1.trans s3) hl⟩⟩
end
end TF07
/-! the free names off a layout -/
namespace TG
open PySem PySem.Spec L2
open PyProof.Rows hiding St
/-- the sign at i is a free name -/
def frP (w : Wr) (i : Nat) : Bool := match w.subs[i]? with
  | some (.nm z) => decide (Wr.find z (w.env i) = none)
  | _ => false
theorem frIx_eq (w : Wr) : w.frIx = (List.range w.sg).filter (frP w) := rfl
theorem frIx_lt {w : Wr} {i : Nat} (h : i ∈ w.frIx) : i < w.sg := List.mem_range.mp (List.mem_filter.mp h).1
theorem frIx_len (w : Wr) : w.frIx.length ≤ w.sg := Nat.le_trans (List.length_filter_le _ _) (by rw [List.length_range]; exact Nat.le_refl _)
theorem frP_nm {w : Wr} {i : Nat} (h : frP w i = true) : ∃ z, w.subs[i]? = some (.nm z) ∧ Wr.find z (w.env i) = none := by
  unfold frP at h
  cases e : w.subs[i]? with
  | none => rw [e] at h; cases h
  | some s =>
    rw [e] at h
    cases s with
    | nm z => exact ⟨z, rfl, of_decide_eq_true h⟩
    | of _ _ => cases h
    | to _ _ => cases h
theorem frIx_nm {w : Wr} {i : Nat} (h : i ∈ w.frIx) : ∃ z, w.subs[i]? = some (.nm z) ∧ Wr.find z (w.env i) = none ∧ w.nmAt i = z := by
  obtain ⟨z, h1, h2⟩ := frP_nm (List.mem_filter.mp (frIx_eq w ▸ h)).2
  refine ⟨z, h1, h2, ?_⟩
  unfold Wr.nmAt
  rw [h1]
/-- names as the keys of a dict, each with True -/
def keysT (ns : List Str) : List (Key × V) := ns.map fun z => (Sum.inr z, V.bl true)
theorem keysT_put (ns : List Str) (z : Str) : putK (keysT ns) (Sum.inr z : Key) (.bl true) = keysT (Wr.ins ns z) := by
  unfold putK Wr.ins keysT
  by_cases c : z ∈ ns
  · rw [if_pos c, if_pos (by simp [c]), List.map_map]
    refine List.map_congr_left fun y _ => ?_
    show (if (Sum.inr y : Key) = Sum.inr z then _ else _) = _
    by_cases d : (Sum.inr y : Key) = Sum.inr z
    · rw [if_pos d]
    · rw [if_neg d]
  · rw [if_neg c, if_neg (by simp [c]), List.map_append]
    rfl
theorem keysT_len (ns : List Str) : (keysT ns).length = ns.length := List.length_map _
theorem ins_len (f : List Str) (z : Str) : (Wr.ins f z).length ≤ f.length + 1 := by
  unfold Wr.ins
  split
  · exact Nat.le_succ _
  · rw [List.length_append]; exact Nat.le_refl _
theorem foldl_len (l f : List Str) : (l.foldl Wr.ins f).length ≤ f.length + l.length := by
  induction l generalizing f with
  | nil => exact Nat.le_refl _
  | cons z l ih =>
    have h1 := ih (Wr.ins f z)
    have h2 := ins_len f z
    show (l.foldl Wr.ins (Wr.ins f z)).length ≤ f.length + (l.length + 1)
    omega
def natV (l : List Nat) : List V := l.map fun (i : Nat) => V.int (i : Int)
def spFreeS (C : Addr) : Sp := fun vs H Q _ => ∃ (l : Addr) (w : Wr), vs = [.ref l] ∧ LayAt C H l w ∧ w.sg ≤ 2000 ∧
  ∀ (a : Addr) (H' : Hp), Same H H' → H' a = some (.lst (natV w.frIx)) → Q (.ref a) H'
def spFreeI (C : Addr) : Sp := fun vs H Q _ => ∃ (l : Addr) (w : Wr), vs = [.ref l] ∧ LayAt C H l w ∧ w.sg ≤ 2000 ∧
  ∀ (t : Addr) (H' : Hp), Same H H' → H' t = some (.tup (w.fr.map V.str)) → Q (.ref t) H'
end TG
namespace TF07
open PySem PySem.Spec L2 TG TA
open PyProof.Rows hiding St
abbrev sFreeS : Stmt := top 28
abbrev sFreeI : Stmt := top 29
theorem scFreeS : FnScope ["layout", "at", "word", "_"] ["layout"] (defScope sFreeS) := ⟨rfl, rfl, rfl, by decide +kernel, rfl, by decide +kernel, by decide +kernel⟩
theorem scFreeI : FnScope ["layout", "found", "at"] ["layout"] (defScope sFreeI) := ⟨rfl, rfl, rfl, by decide +kernel, rfl, by decide +kernel, by decide +kernel⟩
section
variable {P : Program} {w : World} {K : PySem.W.Frag} {mg : Str → Option Value} {base : Heap} {f f1 f2 f3 : Addr} {fd fd1 fd2 fd3 : FuncData}
theorem ok_freeS {C fI : Addr} (F : Fun K "free_signs" "free_signs" sFreeS f fd) (T : Bn mg) (W : Lw mg) (Z : LayC K mg C fI) : FnOk P w K mg base CX0 1 f fd ["layout"] (spFreeS C) := by
  refine F.ok scFreeS (fun vs H Q E h => ?_) (fun cdv A outer s H vs Q E hr h => ?_)
  · obtain ⟨l, wr, rfl, _⟩ := h
    rfl
  obtain ⟨l, wr, rfl, ⟨g, e, b, a, d, dx, hl, ⟨ts, hg, hgl, hgt⟩, he, hb, ha, ⟨xs, hd, hx, hxs⟩⟩, hn, q⟩ := h
  obtain ⟨tNm, gNm⟩ := W.nm_
  refine ⟨_, (pss_one (ps_ret (pe_lc (own := [("at", 1), ("word", 2), ("_", 3)]) (g := (gTup K 2 (gCons (gName 1) (gCons (gTup K 2 (gCons (gName 2) (gCons (gName 3) gNil))) gNil)))) (by rfl) scFreeS.nd (pi_enum (by rfl) T.b_enumerate (pa_cons (pe_fld (pv 0) (by rfl)) pa_nil)) (blkOk_by (own := [("at", 1), ("word", 2), ("_", 3)]) (N := ["layout", "at", "word", "_"]) (sc := defScope sFreeS) (by decide +kernel)) (fun _ _ _ _ _ => (pg_tup (by rfl) (pgs_cons (pg_name (i := 1) scFreeS.nd rfl (.inl rfl)) (pgs_cons (pg_tup (by rfl) (pgs_cons (pg_name (i := 2) scFreeS.nd rfl (.inl rfl)) (pgs_cons (pg_name (i := 3) scFreeS.nd rfl (.inl rfl)) pgs_nil))) pgs_nil)))) (fun _ _ _ _ _ => (pts_one (PW.pt (pw_and (pt_cmpR op_eq (pv 2) (pe_glob (v := .str "name") rfl gNm ⟨_, rfl⟩) (nomark _)) (pw_and1 (pt_cmpR op_isN (pe_ix (show IxR _ (rIxL K) from ix_list) (show PE _ _ (tFld K (tVar 0) "binders") from pe_fld (pv 0) (by rfl)) (pv 1) (fun _ _ => rfl)) pe_non (nomark _))))))) (fun _ _ _ _ _ => (pv 1))))), ?_⟩
  have hn2 : (ts.map V.ref).length = wr.sg := by rw [List.length_map, hgl]
  refine ⟨_, rfl, l, C, dx, _, _, rfl, hl, Z.cl, Z.nS, lay_signs g e b a d, g, _, rfl, SqL.of hg, fun D hD => ?_⟩
  have nlD : l ≠ D := ne_of_none hl hD
  refine lc_it (walk_enum (xs := ts.map V.ref)) (fun i H2 => Same H H2 ∧ H2 D = some (.lst (natV ((List.range i).filter (frP wr))))) ?_ ?_ ?_ ?_
  · exact ⟨same_new hD, upd_same⟩
  · rintro i H2 _ ⟨s2, _⟩
    exact SqL.of (s2 _ _ hg)
  · rintro i x H2 H3 hi ⟨s2, h2⟩ ⟨tp, y1, y2, rfl, htp, rfl, e1, e2⟩
    cases e1
    rw [hn2] at hi
    obtain ⟨s', hs'⟩ := wr_get wr hi
    have e2 : (ts.map V.ref)[i]? = some y2 := e2
    rw [List.getElem?_map] at e2
    obtain ⟨t, ht, rfl⟩ := Option.map_eq_some_iff.mp e2
    have s3 : Same H (L2.upd H2 tp (.tup [.int ((i : Nat) : Int), .ref t])) := s2.trans (same_new htp)
    have ht2 := s3 _ _ (hgt i s' t hs' ht)
    have nDt : D ≠ tp := ne_of_none h2 htp
    have h3 : (L2.upd H2 tp (.tup [.int ((i : Nat) : Int), .ref t])) D = some (.lst (natV ((List.range i).filter (frP wr)))) := by rw [upd_ne nDt]; exact h2
    have hlen : (natV ((List.range i).filter (frP wr))).length < sizeLine := by
      unfold natV
      rw [List.length_map]
      have := List.length_filter_le (frP wr) (List.range i)
      rw [List.length_range] at this
      exact small_le (by omega)
    refine ⟨tp, _, rfl, SqT.of upd_same, rfl, _, _, rfl, _, _, rfl, t, _, rfl, SqT.of ht2, rfl, _, _, rfl, _, _, rfl, rfl, rfl, rfl, ?_⟩
    refine ⟨_, rfl, rfl, _, rfl, ?_⟩
    have goNo : frP wr i = false → Same H (L2.upd H2 tp (.tup [.int ((i : Nat) : Int), .ref t])) ∧ (L2.upd H2 tp (.tup [.int ((i : Nat) : Int), .ref t])) D = some (.lst (natV ((List.range (i + 1)).filter (frP wr)))) := fun c => by
      refine ⟨s3, ?_⟩
      rw [h3, List.range_succ, List.filter_append, List.filter_cons_of_neg (by rw [c]; exact Bool.false_ne_true)]
      simp
    cases s' with
    | of x b' =>
      rw [show decide (V.str (Wr.of x b').wd = V.str "name") = false from (by decide +kernel : decide (V.str "of" = V.str "name") = false)]
      exact iteF (iteF (goNo (by unfold frP; rw [hs'])))
    | to b' c' =>
      rw [show decide (V.str (Wr.to b' c').wd = V.str "name") = false from (by decide +kernel : decide (V.str "to" = V.str "name") = false)]
      exact iteF (iteF (goNo (by unfold frP; rw [hs'])))
    | nm z =>
      refine iteT ⟨_, rfl, l, C, dx, _, _, rfl, s3 _ _ hl, Z.cl, Z.nI, lay_binders g e b a d, _, rfl, d, _, _, _, rfl, rfl, SqL.of (s3 _ _ hd), atI_nat (hxs i hi), rfl, _, rfl, ?_⟩
      have eb : wr.bnd i = Wr.find z (wr.env i) := by unfold Wr.bnd; rw [hs']
      rw [eb]
      cases c : Wr.find z (wr.env i) with
      | none =>
        have c2 : frP wr i = true := by unfold frP; rw [hs']; exact decide_eq_true c
        refine iteT ?_
        refine ⟨_, rfl, _, h3, hlen, same_put s3 hD, ?_⟩
        rw [upd_same, List.range_succ, List.filter_append, List.filter_cons_of_pos c2]
        unfold natV
        rw [List.map_append]
        rfl
      | some j =>
        have c2 : frP wr i = false := by unfold frP; rw [hs']; exact decide_eq_false (by rw [c]; exact fun z => nomatch z)
        exact iteF (goNo c2)
  · rintro H2 ⟨s2, h2⟩
    rw [hn2] at h2
    exact q D H2 s2 h2
theorem ok_freeI {C fI : Addr} (F : Fun K "free_in" "free_in" sFreeI f fd) (T : Bn mg) (Z : LayC K mg C fI) (D_free_signs : Df K mg "free_signs" sFreeS f1 fd1 ["layout"]) (G_free_signs : FnOk P w K mg base CX0 1 f1 fd1 ["layout"] (spFreeS C)) : FnOk P w K mg base CX0 2 f fd ["layout"] (spFreeI C) := by
  refine F.ok scFreeI (fun vs H Q E h => ?_) (fun cdv A outer s H vs Q E hr h => ?_)
  · obtain ⟨l, wr, rfl, _⟩ := h
    rfl
  obtain ⟨l, wr, rfl, hL, hn, q⟩ := h
  refine ⟨_, (pss_cons (ps_set (i := 1) scFreeI.nd rfl (.inl rfl) pe_dnewK)
      (pss_cons (ps_for PassesOwn.never rfl (pi_list (pe_cd D_free_signs G_free_signs hr (by decide) (pa_cons (pv 0) pa_nil))) (pg_name (i := 2) scFreeI.nd rfl (.inl rfl))
        (pss_one (ps_dput (hu_of hr) (pv 1) (pe_ix ix_tup (pe_ix ix_list (pe_fld (pv 0) (by rfl)) (pv 2) (fun _ _ => rfl)) pe_int (fun _ _ => rfl)) pe_bl rfl)))
      (pss_one (ps_ret (pe_callTy (call_tupleD rfl) (by rfl) T.b_tuple (by decide +kernel) (pa_cons (pv 1) pa_nil)))))), ?_⟩
  refine fun fd0 hfd => ?_
  have s1 : Same H (L2.upd H fd0 (.dK [])) := same_new hfd
  refine ⟨_, rfl, l, wr, rfl, hL.same s1, hn, fun ix H1 s2 hix => ⟨ix, rfl, ⟨_, SqL.of hix⟩, ?_⟩⟩
  obtain ⟨g, e, b, a, d, dx, hl, ⟨ts, hg, hgl, hgt⟩, _⟩ := hL.same (s1.trans s2)
  have hfd1 : H1 fd0 = some (.dK []) := s2 _ _ upd_same
  have nfi : ix ≠ fd0 := ne_of hix hfd1 (by intro z; cases z)
  have nfl : l ≠ fd0 := ne_of hl hfd1 (by intro z; cases z)
  have nfg : g ≠ fd0 := ne_of hg hfd1 (by intro z; cases z)
  refine for_list (xs := natV wr.frIx) (fun k σ H2 => ∃ v : Option V, σ = [some (.ref l), some (.ref fd0), v] ∧ Same H H2 ∧ (∀ b' u, b' ≠ fd0 → H1 b' = some u → H2 b' = some u) ∧ H2 fd0 = some (.dK (keysT (((wr.frIx.take k).map wr.nmAt).foldl Wr.ins [])))) ?_ ?_ ?_ ?_
  · exact ⟨none, rfl, s1.trans s2, fun _ _ _ e => e, by rw [List.take_zero]; exact hfd1⟩
  · rintro k σ H2 _ ⟨v, _, _, k2, _⟩
    exact SqL.of (k2 _ _ nfi hix)
  · rintro k x σ H2 hx ⟨v, rfl, s3, k2, h2⟩
    unfold natV at hx
    rw [List.getElem?_map] at hx
    obtain ⟨i, hi, rfl⟩ := Option.map_eq_some_iff.mp hx
    obtain ⟨z, hz, _, hzn⟩ := frIx_nm (mem_get hi)
    have hin := Wr.subs_lt hz
    obtain ⟨t, ht⟩ : ∃ t, ts[i]? = some t := get_lt (by rw [hgl]; exact hin)
    have ht2 := hgt i _ t hz ht
    have nft : t ≠ fd0 := ne_of ht2 hfd1 (by intro z; cases z)
    refine ⟨_, rfl, _, rfl, l, C, dx, _, _, rfl, k2 _ _ nfl hl, Z.cl, Z.nS, lay_signs g e b a d, _, rfl, g, _, _, .ref t, rfl, rfl, SqL.of (k2 _ _ nfg hg), atI_nat (j := i) (by rw [List.getElem?_map, ht]; rfl), t, _, _, .str z, rfl, rfl, SqT.of (k2 _ _ nft ht2), rfl, fd0, _, rfl, DPut.k (k := Sum.inr z) h2 ?_, ?_⟩
    · rw [keysT_len]
      have h4 := foldl_len ((wr.frIx.take k).map wr.nmAt) []
      have h5 := frIx_len wr
      rw [List.length_map, List.length_take] at h4
      exact small_le (by have : ([] : List Str).length = 0 := rfl; omega)
    · refine ⟨_, rfl, same_put s3 hfd, fun b' u n e => by rw [upd_ne n]; exact k2 b' u n e, ?_⟩
      rw [upd_same, keysT_put, take_snoc hi, List.map_append, List.foldl_append]
      show _ = some (HO.dK (keysT (Wr.ins _ (wr.nmAt i))))
      rw [hzn]
  · rintro σ H2 ⟨v, rfl, s3, k2, h2⟩
    have hlen : (natV wr.frIx).length = wr.frIx.length := List.length_map _
    rw [hlen, List.take_of_length_le (Nat.le_refl _), Wr.frIx_fold] at h2
    refine ⟨_, rfl, fd0, _, rfl, .inl h2, fun t ht => ?_⟩
    refine q t _ (s3.trans (same_new ht)) ?_
    rw [upd_same]
    unfold keysT
    rw [List.map_map]
    rfl
end
end TF07
namespace TF07
open PySem PySem.Spec L2 TG TA
open PyProof.Rows hiding St
abbrev sFN : Stmt := top 37
theorem scFN : FnScope ["writing"] ["writing"] (defScope sFN) := ⟨rfl, rfl, rfl, by decide +kernel, rfl, by decide +kernel, by decide +kernel⟩
section
variable {P : Program} {w : World} {K : PySem.W.Frag} {mg : Str → Option Value} {base : Heap} {f f1 f2 f3 : Addr} {fd fd1 fd2 fd3 : FuncData}
theorem ok_free {C : Addr} (F : Fun K "free_names" "free_names" sFN f fd) (T : Bn mg) (D_laid_out : Df K mg "laid_out" sLaid f1 fd1 ["value", "part"]) (G_laid_out : FnOk P w K mg base CX0 5 f1 fd1 ["value", "part"] (spLaid K C))
    (D_free_in : Df K mg "free_in" sFreeI f2 fd2 ["layout"]) (G_free_in : FnOk P w K mg base CX0 2 f2 fd2 ["layout"] (spFreeI C)) : FnOk P w K mg base CX0 6 f fd ["writing"] (spFree K) := by
  refine F.ok scFN (fun vs H Q E h => ?_) (fun cdv A outer s H vs Q E hr h => ?_)
  · obtain ⟨v, d, wr, rfl, _⟩ := h
    rfl
  obtain ⟨v, d, wr, rfl, hd, ht, hok, hn, _, q⟩ := h
  refine ⟨_, (pss_one (ps_ret (pe_cd D_free_in G_free_in hr (by decide) (pa_cons (pe_cd D_laid_out G_laid_out hr (by decide) (pa_cons (pv 0) (pa_cons pe_str pa_nil))) pa_nil)))), ?_⟩
  exact ⟨_, rfl, v, _, d, wr, rfl, hd, ht, hok, hn, fun l H1 s1 hL => ⟨l, wr, rfl, hL, hn, fun t H2 s2 h2 => q t H2 (s1.trans s2) (SqT.of h2)⟩⟩
end
end TF07
/-! own rules: a comprehension that makes a dict, whatever its keys are, by a word for what a store asks -/
namespace TG
open PySem PySem.Spec L2
open PyProof.Rows hiding St
/-- J of each block's frame within X -/
abbrev InB (X : Cx) (sc : Scope) (J : Cx → Prop) : Prop := ∀ (t : Shared) (G : Hp) (c : Addr) (cs : List (Str × Addr)) (ws : List Addr), J (X.blk t G sc (compEnvC sc cs c X.env) ws)
/-- what it asks to store a key and a value in the dict at an address -/
abbrev DSt := Addr → V → V → Hp → (Hp → Prop) → Prop
def StOk (P : Program) (w : World) (st : DSt) : Prop := ∀ (Y : Cx), Y.prog = P → Y.w = w → ∀ (ps : List (Addr × Obj)) (τ : L2.St) (G : Hp) (t : Shared) (E : Value → Shared → Prop) (D : Addr) (y z : V) (u r : Value) (N : Hp → Prop),
  Inv Y ps τ G t → RelV y u → RelV z r → st D y z G N → wpAny (model P w) Y.A (dictSet D u r) (fun _ t' => ∃ G', Inv Y ps τ G' t' ∧ N G') E t
/-- one turn at item x: the target, the tests, key, value, the store -/
def DTurn (st : DSt) (g : TG) (tt : TT) (tk tv : TE) (own : List Nat) (σ : L2.St) (D : Addr) (x : V) (G : Hp) (N : Hp → Prop) : Prop :=
  g x (wipe σ own) G fun τ G1 => wipe τ own = wipe σ own ∧ tt τ G1 fun b G2 => if b = true then tk τ G2 fun y G3 => tv τ G3 fun z G4 => st D y z G4 N else N G2
/-- the whole of it -/
def tDcS (st : DSt) (wi : TI) (g : TG) (tt : TT) (tk tv : TE) (own : List Nat) : TE := fun σ H Q => wi σ H fun J H1 => ∀ D, H1 D = none → ∃ W : Nat → Nat → Hp → Prop, (∃ m, W 0 m (L2.upd H1 D (.dK []))) ∧ ∀ i m G, W i m G →
  (J.stop i G ∧ Q (.ref D) G) ∨ (J.go i G ∧ ∃ N : Hp → Prop, (∀ G', N G' → ∃ m', m' < m ∧ W (i + 1) m' G') ∧ ∀ x G', J.yld i G x G' → DTurn st g tt tk tv own σ D x G' N)
section
variable {X : Cx} {st : DSt} {kx vx tg iter : Expr} {ifs : List Expr} {sc : Scope} {own : List (Str × Nat)} {wi : TI} {g : TG} {tt : TT} {tk tv : TE}
theorem dcs_core {ps : List (Addr × Obj)} {s : Shared} {σ : L2.St} {H : Hp} {Q : VK} {p1 p2 : Pos} {use : Option (Value → Sem Unit)} {R : Value → Shared → Prop} (hc : X.calm = true) (hN : X.N.Nodup) (I : Inv X ps σ H s) (hst : StOk X.prog X.w st) (hi : PI X tg iter wi)
    (ok : BlkOk X.N X.env.scope sc own) (hg : InB X sc fun Y => PG Y tg g) (ht : InB X sc fun Y => PTs Y ifs tt) (hk : InB X sc fun Y => PE Y kx tk) (hv : InB X sc fun Y => PE Y vx tv) (hs : ∀ x, foldedSetIterable iter X.env x = pure x)
    (h : tDcS st wi g tt tk tv (own.map (·.2)) σ H Q) (hR : ∀ D C t m G, Inv X ps σ G t → Q (.ref D) G → t.heap.Ns C m → FpOk X ps G C → compPost (model X.prog X.w) X.A X.xe use R (.ref D) C (.ok .next) t) :
    wpAny (model X.prog X.w) X.A (comprehension (.DictComp kx vx [⟨tg, iter, ifs, 0⟩] sc p1) sc X.env p2 newDict false (eval iter X.env) use) R X.xe s := by
  have clo : ∀ y ∈ sc.names, y.2 = .free → ∃ c, X.env.cells.lookup y.1 = some c := by
    intro y hy e
    exact (ok.free y hy e).elim (fun k => I.ok.has _ (.inl k)) fun k => I.ok.has _ (.inr k)
  refine wpAny_comprehension_free (use := use) rfl hs (closure_ok clo) ok.kind (fun y hy e => (ok.uniq y hy).trans (congrArg some e)) ?_
  refine thn (hi.run ps s σ H _ I h) fun xv sA hA => thn hA fun itv sB ⟨it, fp, tn, J, HB, eit, IB, T, tB, fB, q⟩ => ?_
  subst eit
  refine wpAny_newObj_type (newEnv_comp ?_)
  -- the new dict at D, the frame of the block at C
  obtain ⟨D, eD⟩ : ∃ D, D = sB.heap.objs.size := ⟨_, rfl⟩
  rw [← eD]
  have D0 : HB D = none := IB.hok.fresh (Nat.le_of_eq eD.symm)
  obtain ⟨W, ⟨m0, w0⟩, turn⟩ := q D D0
  obtain ⟨sC, eC⟩ : ∃ sC : Shared, sC = { sB with heap := sB.heap.push { cls := .type "dict", data := .dict #[] } } := ⟨_, rfl⟩
  rw [← eC]
  have IC : Inv X ps σ (L2.upd HB D (.dK [])) sC := by
    subst eC eD
    exact IB.laid (t' := sB.toks) (fun b o e => Heap.get?_push_of_some _ e) (Nat.le_refl _) (dk_empty sB.heap IB.big)
  have below : ∀ b ∈ fp, b < D := fun b hb => by
    obtain ⟨o, e, _⟩ := T.obj _ _ tB b hb
    rw [eD]
    exact Heap.lt_size e
  have sizeC : sC.heap.objs.size = D + 1 := by rw [eC, eD]; exact Heap.size_push ..
  have fC : ∀ b ∈ fp, FpOk X ps (L2.upd HB D (.dK [])) b ∧ b < sC.heap.objs.size := fun b hb => by
    have lt := below b hb
    have f := fB b hb
    exact ⟨⟨(upd_ne (Nat.ne_of_lt lt)).trans f.1, f.2⟩, by rw [sizeC]; exact Nat.lt_succ_of_lt lt⟩
  have tC : tn 0 sC.heap := T.keep _ _ _ tB fun b _ o e => by rw [eC]; exact Heap.get?_push_of_some _ e
  have IE := block_start IC ok hN fC
  obtain ⟨HC, eHC⟩ : ∃ HC, HC = L2.upd HB D (.dK []) := ⟨_, rfl⟩
  rw [← eHC] at IC IE fC w0
  obtain ⟨ce, ece⟩ : ∃ ce, ce = compEnvC sc (cellsFrom (sC.heap.objs.size + 1) sc.names (cloFrom X.env.cells sc.names [])) sC.heap.objs.size X.env := ⟨_, rfl⟩
  have eL : ce.locals = sC.heap.objs.size := by rw [ece]; rfl
  have gg : PG (X.blk sC HC sc ce fp) tg g := ece ▸ hg sC HC sC.heap.objs.size _ fp
  have gt : PTs (X.blk sC HC sc ce fp) ifs tt := ece ▸ ht sC HC sC.heap.objs.size _ fp
  have gk : PE (X.blk sC HC sc ce fp) kx tk := ece ▸ hk sC HC sC.heap.objs.size _ fp
  have gv : PE (X.blk sC HC sc ce fp) vx tv := ece ▸ hv sC HC sC.heap.objs.size _ fp
  rw [← ece] at IE
  show codeAny _ _ (.compStart (.DictComp kx vx [⟨tg, iter, ifs, 0⟩] sc p1) 0 (.ref it) (.ref D) (compEnvC sc (cellsFrom (sC.heap.objs.size + 1) sc.names (cloFrom X.env.cells sc.names [])) sC.heap.objs.size X.env)) (compPost (model X.prog X.w) X.A X.xe use R (.ref D) sC.heap.objs.size) _
  rw [← ece]
  obtain ⟨sE, eE⟩ : ∃ sE : Shared, sE = { sC with heap := pushCells (sC.heap.push { cls := .type "dict", data := .dict #[] }) sc.names } := ⟨_, rfl⟩
  rw [← eE] at IE ⊢
  have tE : tn 0 sE.heap := T.keep _ _ _ tC fun b _ o e => by rw [eE]; exact pushCells_keeps _ _ _ _ (Heap.get?_push_of_some _ e)
  have nE : ∀ b ∈ fp, HC b = none := fun b hb => (fC b hb).1.1
  have inF : ∀ {τ : L2.St} {G : Hp} {t : Shared}, Inv (X.blk sC HC sc ce fp) [] τ G t → (∀ b ∈ fp, G b = none) → ∀ b ∈ fp, FpOk (X.blk sC HC sc ce fp) [] G b := by
    intro τ G t J' hn b hb
    exact ⟨hn b hb, (J'.ok.exf b hb).1, J'.ok.exfs b hb, .inl hb, fun x c e => (J'.ok.exf b hb).2 x c e, fun p hp => absurd (show p ∈ ([] : List (Addr × Obj)) ++ [] from hp) List.not_mem_nil⟩
  have loop : codeAny (model X.prog X.w) X.A (.compLoop (.DictComp kx vx [⟨tg, iter, ifs, 0⟩] sc p1) 0 (.ref it) (.ref D) ce) (compPost (model X.prog X.w) X.A X.xe use R (.ref D) sC.heap.objs.size) sE := by
    refine compLoop_anyD (fun n t => ∃ i G, Inv (X.blk sC HC sc ce fp) [] (wipe σ (own.map (·.2))) G t ∧ tn i t.heap ∧ (∀ b ∈ fp, G b = none) ∧ W i n G) ?_ m0 ⟨0, HC, IE, tE, nE, w0⟩
    rintro n t ⟨i, G, J5, t5, n5, w5⟩
    rcases turn i n G w5 with ⟨stop, fin⟩ | ⟨go, N, less, step⟩
    · refine thnF (T.done (X.blk sC HC sc ce fp) rfl rfl rfl hc i [] t _ G (fun _ _ => False) J5 (inF J5 n5) t5 stop) fun r t6 ⟨er, J6⟩ => ?_
      subst er
      have back : Inv X ps σ G t6 := IC.call' (ch := fp) J6.os J6.base J6.hok J6.bare fun b hb => by
        obtain ⟨⟨_, f1, _, f3, f4, f5⟩, _⟩ := fC b hb
        exact ⟨f3, f1, f4, f5⟩
      obtain ⟨m, hn, _⟩ := J6.loc
      have hn : t6.heap.Ns ce.locals m := hn
      have free : G ce.locals = none := J6.free
      rw [eL] at hn free
      exact hR D _ t6 m G back fin hn (IC.fpOk (Nat.le_refl _) free)
    · refine thnF (T.item (X.blk sC HC sc ce fp) rfl rfl rfl hc i [] t _ G (fun _ _ => False) J5 (inF J5 n5) t5 go) fun r t6 ⟨u, er, h6⟩ => ?_
      subst er
      refine thnF h6 fun _ t7 ⟨x, G7, J7, r7, y7, tn7, n7⟩ => ?_
      have P7 := J7.pinned (inF J7 n7) (T.obj _ _ tn7)
      refine thnF (gg.run _ t7 _ G7 x u _ P7 r7 (step x G7 y7)) fun _ t8 ⟨τ, G8, J8, wp, q8⟩ => ?_
      refine thnF (gt.run _ t8 τ G8 _ J8 q8) fun b t9 ⟨G9, J9, q9⟩ => ?_
      have next : ∀ {t' : Shared} {G' : Hp}, Inv (X.blk sC HC sc ce fp) ([] ++ pinsAt fp t7.heap) τ G' t' → N G' → ∃ m, m < n ∧ ∃ i G', Inv (X.blk sC HC sc ce fp) [] (wipe σ (own.map (·.2))) G' t' ∧ tn i t'.heap ∧ (∀ b ∈ fp, G' b = none) ∧ W i m G' := by
        intro t' G' J' hN'
        obtain ⟨m', lt, w'⟩ := less G' hN'
        have pin : ∀ b ∈ fp, ∀ o, t7.heap.get? b = some o → t'.heap.get? b = some o ∧ G' b = none := fun b hb o e => by
          obtain ⟨z1, z2, _⟩ := J'.pin (b, o) (List.mem_append_right _ (List.mem_append_right _ (mem_pinsAt hb e)))
          exact ⟨z1, z2⟩
        refine ⟨m', lt, i + 1, G', (J'.unpinned (pins := [])).weak (by rw [← wp, wipe_length]) (fun j v e => ?_), T.keep _ _ _ tn7 fun b hb o e => (pin b hb o e).1, fun b hb => ?_, w'⟩
        · rw [← wp] at e
          exact (wipe_some e).1
        · obtain ⟨o, e, _⟩ := T.obj _ _ tn7 b hb
          exact (pin b hb o e).2
      cases b with
      | false => exact next J9 q9
      | true =>
        have q9 : tk τ G9 fun y G3 => tv τ G3 fun z G4 => st D y z G4 N := q9
        refine thnF (gk.run _ t9 τ G9 _ J9 q9) fun uk t10 ⟨y, G10, J10, r10, q10⟩ => ?_
        refine thnF (gv.run _ t10 τ G10 _ J10 q10) fun uv t11 ⟨z, G11, J11, r11, q11⟩ => ?_
        exact wpAny_mono (hst (X.blk sC HC sc ce fp) rfl rfl _ τ G11 t11 (fun _ _ => False) D y z uk uv N J11 r10 r11 q11) (fun _ t12 ⟨G12, J12, hN12⟩ => next J12 hN12) fun _ _ k => k.elim
  exact codeAny_compStart_dict loop (T.self X.A 0 _ _ _ tE loop)
/-- as a value -/
theorem pe_dcS {p1 : Pos} (hst : StOk X.prog X.w st) (hc : X.calm = true) (hN : X.N.Nodup) (hi : PI X tg iter wi) (ok : BlkOk X.N X.env.scope sc own) (hg : InB X sc fun Y => PG Y tg g) (ht : InB X sc fun Y => PTs Y ifs tt) (hk : InB X sc fun Y => PE Y kx tk) (hv : InB X sc fun Y => PE Y vx tv)
    (hs : ∀ x, foldedSetIterable iter X.env x = pure x := by intro _; rfl) : PE X (.DictComp kx vx [⟨tg, iter, ifs, 0⟩] sc p1) (tDcS st wi g tt tk tv (own.map (·.2))) := by
  refine ⟨fun ps s σ H Q I h => ?_⟩
  rw [arm_eval_DictComp]
  refine dcs_core hc hN I hst hi ok hg ht hk hv hs h fun D C t m G J q hn f => ⟨m, hn, fun h2 sb => ?_⟩
  obtain ⟨f0, f1, _, f3, f4, f5⟩ := f
  exact ⟨.ref D, G, J.turned (t' := t.toks) (fun b o n e => (sb.2 b n).trans e) f0 f1 f3 f4 f5, rfl, q⟩
theorem swD {y : Str} {py p1 : Pos} {l : Nat} {env : Env} {gs : List Comprehension} (hk : env.scope.kind = .function) (hy : env.scope.names.lookup y = some .local) (hl : (py.line == p1.line) = true) (ha : (sc.names.any fun (n, k) => n == y && (k == .local || k == .cell)) = false) :
    swapsWith (.DictComp kx vx gs sc p1) (some (.Name y py)) l env = pure true := by
  have e1 : env.kindOf y = some .local := hy
  have e2 : env.blockKind = .function := by unfold Env.blockKind; rw [hk]; rfl
  unfold swapsWith
  simp only [e2, e1, ha, Expr.pos, hl]
  rfl
/-- y = {..} -/
theorem ps_setDcS {i : Nat} {y : Str} {py p1 p2 : Pos} (hst : StOk X.prog X.w st) (hc : X.calm = true) (hN : X.N.Nodup) (hy : X.N[i]? = some y) (hl : X.env.scope.names.lookup y = some .local) (hw : swapsWith (.DictComp kx vx [⟨tg, iter, ifs, 0⟩] sc p1) (some (.Name y py)) p2.line X.env = pure true)
    (hi : PI X tg iter wi) (ok : BlkOk X.N X.env.scope sc own) (hg : InB X sc fun Y => PG Y tg g) (ht : InB X sc fun Y => PTs Y ifs tt) (hk : InB X sc fun Y => PE Y kx tk) (hv : InB X sc fun Y => PE Y vx tv)
    (hs : ∀ x, foldedSetIterable iter X.env x = pure x := by intro _; rfl) : PS X (.Assign [.Name y py] (.DictComp kx vx [⟨tg, iter, ifs, 0⟩] sc p1) p2) (tAsg (tDcS st wi g tt tk tv (own.map (·.2))) (gName i)) := by
  refine ⟨fun ps s σ H D I h => ?_⟩
  rw [exec_Assign_Name_used _ _ _ _ hw]
  refine wpAny_bind (wpAny_standAt (wpAny_bind ?_))
  have h : tDcS st wi g tt tk tv (own.map (·.2)) σ H (fun x G => gName i x σ G D.nx) := h
  show wpAny _ X.A (do let _ ← comprehension (.DictComp kx vx [⟨tg, iter, ifs, 0⟩] sc p1) sc X.env (firstIterPos [⟨tg, iter, ifs, 0⟩] p1) newDict false (eval iter X.env) (some (assign (.Name y py) X.env))) _ _ s
  refine wpAny_bind (thn (dcs_core (R := fun _ t => SP X ps D .next t) hc hN I hst hi ok hg ht hk hv hs h fun L C t m G J q hn f => ?_) fun _ t hq => wpAny_pure (wpAny_pure hq))
  obtain ⟨f0, f1, _, f3, f4, f5⟩ := f
  show wpAny _ _ (assign (.Name y py) X.env (.ref L)) _ _ _
  refine wpAny_assign_Name (store_ok2 (v := V.ref L) J hN hy (.inl hl) rfl (fun t2 J2 ⟨a, sb, ha⟩ => ?_) (.inr hl))
  have away : C ≠ a := ha.elim (fun z => z ▸ f1) fun z e => f4 y a z e.symm
  exact ⟨m, hn.sameBut sb away, fun h3 sb3 => ⟨_, G, J2.turned (t' := t2.toks) (fun b o n e => (sb3.2 b n).trans e) f0 f1 f3 f4 f5, q⟩⟩
end
section
variable {J : It} {n : Nat} {Gd : Hp → Prop} {Y : Nat → Hp → V → Hp → Prop}
/-- over whatever is walked: Pv by the turn and the heap, the new dict at D within -/
theorem dc_it (wk : Walk J n Gd Y) {st : DSt} {g : TG} {tt : TT} {tk tv : TE} {own : List Nat} {σ : L2.St} {H1 : Hp} {D : Addr} {Qd : Hp → Prop} (Pv : Nat → Hp → Prop) (h0 : Pv 0 (L2.upd H1 D (.dK []))) (hG : ∀ i G, i ≤ n → Pv i G → Gd G)
    (hs : ∀ i x G G', i < n → Pv i G → Y i G x G' → DTurn st g tt tk tv own σ D x G' (Pv (i + 1))) (hd : ∀ G, Pv n G → Qd G) :
    ∃ W : Nat → Nat → Hp → Prop, (∃ m, W 0 m (L2.upd H1 D (.dK []))) ∧ ∀ i m G, W i m G →
      (J.stop i G ∧ Qd G) ∨ (J.go i G ∧ ∃ N : Hp → Prop, (∀ G', N G' → ∃ m', m' < m ∧ W (i + 1) m' G') ∧ ∀ x G', J.yld i G x G' → DTurn st g tt tk tv own σ D x G' N) := by
  refine ⟨fun i m G => m = n - i ∧ i ≤ n ∧ Pv i G, ⟨n, rfl, Nat.zero_le _, h0⟩, ?_⟩
  rintro i m G ⟨rfl, hi, p⟩
  have gd := hG i G hi p
  rcases Nat.lt_or_ge i n with lt | ge
  · exact .inr ⟨wk.goes i G lt gd, Pv (i + 1), fun G' p' => ⟨n - (i + 1), by omega, rfl, lt, p'⟩, fun x G' y => hs i x G G' lt p (wk.yields i G x G' lt gd y)⟩
  · obtain rfl : i = n := by omega
    exact .inl ⟨wk.stops G gd, hd G p⟩
end
/-! ### keys ints and texts -/
def stK : DSt := fun D y z G N => ∃ kvs k, y = kV k ∧ G D = some (.dK kvs) ∧ kvs.length < sizeLine ∧ N (L2.upd G D (.dK (putK kvs k z)))
theorem stK_ok (P : Program) (w : World) : StOk P w stK := by
  rintro Y rfl rfl ps τ G t E D y z u r N I ry rz ⟨kvs, k, rfl, hD, hl, n⟩
  exact d_dictSet (X := Y) I hD hl ry rz fun t' I' => ⟨_, I', n⟩
/-! ### keys None and texts -/
/-- the dict at D has the keys ns -/
def DN (P : Program) (w : World) (D : Addr) (ns : List (Option Str)) : HO := .ext fun h => ∃ vs, vs.length ≤ sizeLine ∧ (D == sysModules) = false ∧ vs.map (·.1) = ns.map (Option.map fun z => (Sum.inr z : Key)) ∧ h.DictOf (noneKind P w) D vs
/-- or it is still empty -/
def NAt (P : Program) (w : World) (G : Hp) (D : Addr) (ns : List (Option Str)) : Prop := G D = some (DN P w D ns) ∨ (ns = [] ∧ G D = some (.dK []))
def insN (ns : List (Option Str)) (k : Option Str) : List (Option Str) := if k ∈ ns then ns else ns ++ [k]
def optS : Option Str → V
  | none => .non
  | some z => .str z
theorem optS_is {P : Program} {w : World} {k : Option Str} {u : Value} (r : RelV (optS k) u) : (noneKind P w).is (k.map fun z => (Sum.inr z : Key)) u = true := by
  cases k with
  | none => cases (show u = Value.none from r); rfl
  | some z => obtain ⟨t, e⟩ := (show ∃ t, u = Value.str z t from r); subst e; exact keyIs_str z t
theorem keyN_inj {a b : Option Str} (e : a.map (fun z => (Sum.inr z : Key)) = b.map fun z => (Sum.inr z : Key)) : a = b := by
  cases a with
  | none => cases b with
    | none => rfl
    | some _ => cases e
  | some x => cases b with
    | none => cases e
    | some y => cases e; rfl
theorem stored_keys {κ : Type} [DecidableEq κ] (vs : List (κ × Value)) (k : κ) (v : Value) : (stored vs k v).map (·.1) = if k ∈ vs.map (·.1) then vs.map (·.1) else vs.map (·.1) ++ [k] := by
  unfold stored
  by_cases c : k ∈ vs.map (·.1)
  · have h : (vs.any fun kv => decide (kv.1 = k)) = true := by
      obtain ⟨p, hp, e⟩ := List.mem_map.mp c
      exact List.any_eq_true.mpr ⟨p, hp, decide_eq_true e⟩
    rw [if_pos c, if_pos h, List.map_map]
    refine List.map_congr_left fun p _ => ?_
    show (if p.1 = k then (p.1, v) else p).1 = p.1
    split <;> rfl
  · have h : ¬ (vs.any fun kv => decide (kv.1 = k)) = true := fun z => by
      obtain ⟨p, hp, e⟩ := List.any_eq_true.mp z
      exact c (List.mem_map.mpr ⟨p, hp, of_decide_eq_true e⟩)
    rw [if_neg c, if_neg h, List.map_append]
    rfl
/-- what stands there, as the model tells it -/
theorem nat_dict {X : Cx} {ps : List (Addr × Obj)} {σ : L2.St} {H : Hp} {s : Shared} {D : Addr} {ns : List (Option Str)} (I : Inv X ps σ H s) (h : NAt X.prog X.w H D ns) :
    ∃ vs, vs.length ≤ sizeLine ∧ (D == sysModules) = false ∧ vs.map (·.1) = ns.map (Option.map fun z => (Sum.inr z : Key)) ∧ s.heap.DictOf (noneKind X.prog X.w) D vs := by
  rcases h with h | ⟨rfl, h⟩
  · exact (show ObjOk X.prog X.w H s.heap D (DN X.prog X.w D ns) from I.hok D _ h).1
  · obtain ⟨_, hd, vs, rel, o, es, ep, ho, hx, hdt, hk, hp, hn⟩ := dk_of I.hok h
    cases rel
    have e0 : es.toList = [] := by
      generalize es.toList = l at hp
      cases hp
      rfl
    refine ⟨[], Nat.zero_le _, hd, rfl, o, es, ep, ho, hx, hdt, fun e he => ?_, ?_, List.nodup_nil⟩
    · have : e ∈ es.toList := by simpa using he
      rw [e0] at this
      exact absurd this List.not_mem_nil
    · rw [e0]
      exact .nil
theorem nat_mut {P : Program} {w : World} {H : Hp} {D : Addr} {ns : List (Option Str)} (h : NAt P w H D ns) : Mut (H D) := by
  rcases h with h | ⟨_, h⟩
  · rw [h]; exact True.intro
  · rw [h]; exact True.intro
def stN (P : Program) (w : World) : DSt := fun D y _ G N => ∃ ns k, y = optS k ∧ NAt P w G D ns ∧ ns.length < 100000 ∧ N (L2.upd G D (DN P w D (insN ns k)))
theorem stN_ok (P : Program) (w : World) : StOk P w (stN P w) := by
  rintro Y rfl rfl ps τ G t E D y z u r N I ry rz ⟨ns, k, rfl, hD, hl, n⟩
  obtain ⟨vs, hz, hd, ek, dd⟩ := nat_dict I hD
  have hv : vs.length = ns.length := by
    have := congrArg List.length ek
    rw [List.length_map, List.length_map] at this
    exact this
  refine wpAny_dictSet_pairs (hsz := hz) (optS_is ry) dd fun h' dd' sb => ⟨_, ?_, n⟩
  have keys : (stored vs (k.map fun z => (Sum.inr z : Key)) r).map (·.1) = (insN ns k).map (Option.map fun z => (Sum.inr z : Key)) := by
    rw [stored_keys, ek]
    unfold insN
    by_cases c : k ∈ ns
    · rw [if_pos c, if_pos (List.mem_map.mpr ⟨k, c, rfl⟩)]
    · rw [if_neg c, if_neg fun q => ?_, List.map_append]
      · rfl
      · obtain ⟨j, hj, e⟩ := List.mem_map.mp q
        exact c (keyN_inj e ▸ hj)
  have lz : (stored vs (k.map fun z => (Sum.inr z : Key)) r).length ≤ sizeLine := by
    have := stored_length_le vs (k.map fun z => (Sum.inr z : Key)) r
    rw [sizeLine_eq]
    omega
  have here : ∃ q, h'.get? D = some q := by
    obtain ⟨o, _, _, ho, _⟩ := dd'
    exact ⟨o, ho⟩
  exact d_write I (nat_mut hD) sb here ⟨⟨_, lz, hd, keys, dd'⟩, here, fun h1 h2 ⟨vs1, z1, z2, z3, o, es, ep, ho, rest⟩ km => ⟨vs1, z1, z2, z3, o, es, ep, km _ ho, rest⟩⟩
section
variable {X : Cx}
/-- a text not among the keys -/
def rNotN (P : Program) (w : World) : R2 := fun x y H Q => ∃ (D : Addr) (ns : List (Option Str)) (z : Str), x = .str z ∧ y = .ref D ∧ NAt P w H D ns ∧ Q (.bl (!decide (some z ∈ ns))) H
theorem op_notinN : OpR X (compareOp .NotIn) (rNotN X.prog X.w) := by
  intro ps s σ H x y v u Q I rx ry h
  obtain ⟨D, ns, z, rfl, rfl, hD, q⟩ := h
  obtain rfl : u = Value.ref D := ry
  obtain ⟨vs, hz, hd, ek, dd⟩ := nat_dict I hD
  refine wpAny_notIn_of (optS_is (k := some z) rx) hd dd.mapOf ?_
  have e : (valueAt vs ((some z : Option Str).map fun z => (Sum.inr z : Key))).isSome = decide (some z ∈ ns) := by
    unfold valueAt
    rw [Option.isSome_map, Bool.eq_iff_iff, decide_eq_true_eq, List.find?_isSome]
    constructor
    · rintro ⟨p, hp, e⟩
      have h1 : p.1 ∈ vs.map (·.1) := List.mem_map.mpr ⟨p, hp, rfl⟩
      rw [ek] at h1
      obtain ⟨j, hj, e2⟩ := List.mem_map.mp h1
      have e3 : p.1 = (some z : Option Str).map fun z => (Sum.inr z : Key) := of_decide_eq_true e
      exact keyN_inj (e2.trans e3) ▸ hj
    · intro hm
      have h1 : ((some z : Option Str).map fun z => (Sum.inr z : Key)) ∈ vs.map (·.1) := by
        rw [ek]
        exact List.mem_map.mpr ⟨some z, hm, rfl⟩
      obtain ⟨p, hp, e⟩ := List.mem_map.mp h1
      exact ⟨p, hp, decide_eq_true e⟩
  rw [e]
  exact ⟨.bl _, H, I.tok _, rfl, q⟩
end
/-! ### d.get(k, x) where k may be None and the keys are ints and texts -/
def tDGet2N (td ty tx : TE) : TE := fun σ H Q => td σ H fun x H1 => ∃ a, x = .ref a ∧ IsD H1 a ∧ ty σ H1 fun y H2 => tx σ H2 fun z H3 => (∃ o, DGet H3 a y o ∧ Q (o.getD z) H3) ∨ ∃ kvs, y = .non ∧ H3 a = some (.dK kvs) ∧ Q z H3
section
variable {X : Cx} {o e f : Expr} {apos cpos : Pos} {td ty tx : TE}
theorem pe_dget2N (hu : X.A.units + 1 < cLine) (ho : PE X o td) (he : PE X e ty) (hf : PE X f tx) (m : M2 X o "get" apos e f cpos) : PE X (.Call (.Attribute o "get" apos) [e, f] [] cpos) (tDGet2N td ty tx) := by
  refine ⟨fun ps s σ H Q I h => ?_⟩
  refine wpAny_Call_method m.base m.few m.line PySem.F.plainAttrs_dict PySem.F.slot_dict_get PySem.F.type_dict_get (thn (ho.run ps s σ H _ I h) fun u s1 ⟨x, H1, I1, rx, a, ex, d, q1⟩ => ?_)
  subst ex
  obtain rfl : u = Value.ref a := rx
  obtain ⟨t1, t2, _⟩ := isD_at I1 d
  refine ⟨t1, t2, ?_⟩
  rw [m.trees]
  refine Calls.callWith_builtin rfl (Calls.evalArgs_plain (Calls.spliced_cons (thn (he.run ps s1 σ H1 _ I1 q1) fun iv s2 ⟨y, H2, I2, ry, q2⟩ =>
    Calls.spliced_cons (thn (hf.run ps s2 σ H2 _ I2 q2) fun fv s3 ⟨z, H3, I3, rz, q3⟩ => Calls.spliced_nil ?_))))
  rcases q3 with ⟨ov, g, q⟩ | ⟨kvs, rfl, hD, q⟩
  · exact d_get2 hu I3 g ry rz fun w' s4 I4 rw' => ⟨_, H3, I4, rw', q⟩
  · obtain ⟨_, hd, vs, _, dd⟩ := dk_of I3.hok hD
    obtain ⟨fn, hm, hn⟩ := none_map dd
    cases (show iv = Value.none from ry)
    refine call_meetsIn PySem.F.slot_dict_get dd.typeIs PySem.F.entry_dict_get (PySem.F.args_dict_get_3 _ _ _) (meets_dict_get_default (noneKind X.prog X.w) a (k := none) rfl hd fv) ⟨_, hm, ?_⟩
    rw [hn]
    exact ⟨z, H3, I3.tok _, rz, q⟩
end
end TG
/-! depths, codes, alike -/
namespace TG
open PySem PySem.Spec L2
open PyProof.Rows hiding St
abbrev Fo := List (Wr × Nat)
def foS (fs : Fo) : List Wr := fs.flatMap fun p => p.1.subs
def foD (fs : Fo) : List Nat := fs.flatMap fun p => p.1.deps p.2
def foV (fs : Fo) : List V := fs.reverse.map fun p => V.int (p.2 : Int)
theorem foV_cons (p : Wr × Nat) (fs : Fo) : foV (p :: fs) = foV fs ++ [V.int (p.2 : Int)] := by
  unfold foV
  rw [List.reverse_cons, List.map_append]
  rfl
theorem foV_len (fs : Fo) : (foV fs).length = fs.length := by unfold foV; rw [List.length_map, List.length_reverse]
theorem foS_len : ∀ fs : Fo, fs.length ≤ (foS fs).length
  | [] => Nat.zero_le _
  | p :: fs => by
    have h1 := p.1.sg_pos
    have h2 := foS_len fs
    show fs.length + 1 ≤ (p.1.subs ++ foS fs).length
    rw [List.length_append, p.1.subs_len]
    omega
theorem natV_len (l : List Nat) : (natV l).length = l.length := List.length_map _
theorem natV_app (a b : List Nat) : natV (a ++ b) = natV a ++ natV b := List.map_append
theorem natV_at {l : List Nat} {i n : Nat} (h : l[i]? = some n) : (natV l)[i]? = some (V.int (n : Int)) := by unfold natV; rw [List.getElem?_map, h]; rfl
theorem foS_head : ∀ {fs : Fo} {s : Wr} {r : List Wr}, foS fs = s :: r → ∃ d fs', fs = (s, d) :: fs' ∧ s.subs ++ foS fs' = s :: r
  | [], s, r, h => nomatch h
  | (t, d) :: fs, s, r, h => by
    have h : t.subs ++ foS fs = s :: r := h
    have e : t = s := by
      cases t <;> (injection h with h1 _)
    subst e
    exact ⟨d, fs, rfl, h⟩
def spDepths : Sp := fun vs H Q _ => ∃ (r : Addr) (w : Wr), vs = [.ref r] ∧ H r = some (.lst (wdV w)) ∧ w.sg ≤ 2000 ∧
  ∀ (a : Addr) (H' : Hp), Same H H' → H' a = some (.lst (natV (w.deps 0))) → Q (.ref a) H'
def cdV : Cd → V
  | .inl z => .str z
  | .inr n => .int (n : Int)
def spCodes (C : Addr) : Sp := fun vs H Q _ => ∃ (l : Addr) (w : Wr), vs = [.ref l] ∧ LayAt C H l w ∧ w.sg ≤ 2000 ∧
  ∀ (a : Addr) (H' : Hp), Same H H' → H' a = some (.lst ((w.cnt []).cd.map cdV)) → Q (.ref a) H'
def cdD : Cd → PyData
  | .inl z => .str z
  | .inr n => .int (n : Int)
theorem cd_dp {K : PySem.W.Frag} {H : Hp} : ∀ l : List Cd, DpAll K H (l.map cdV) (l.map cdD)
  | [] => .nil
  | .inl z :: r => .cons (.str z) (cd_dp r)
  | .inr n :: r => .cons (.int _) (cd_dp r)
theorem cd_eqv1 (a b : Cd) : PyData.eqv (cdD a) (cdD b) = decide (a = b) := by
  cases a with
  | inl z =>
    cases b with
    | inl y =>
      show (z == y) = _
      rw [Bool.eq_iff_iff]
      simp
    | inr m => exact (decide_eq_false (fun h => nomatch h)).symm
  | inr n =>
    cases b with
    | inl y => exact (decide_eq_false (fun h => nomatch h)).symm
    | inr m =>
      show ((n : Int) == (m : Int)) = _
      rw [Bool.eq_iff_iff]
      simp
      omega
theorem cd_eqv : ∀ a b : List Cd, PyData.eqvAll (a.map cdD) (b.map cdD) = decide (a = b)
  | [], [] => rfl
  | [], _ :: _ => rfl
  | _ :: _, [] => rfl
  | x :: a, y :: b => by
    show (PyData.eqv (cdD x) (cdD y) && PyData.eqvAll (a.map cdD) (b.map cdD)) = _
    rw [cd_eqv1, cd_eqv a b, Bool.eq_iff_iff]
    simp
theorem cd_lay : ∀ {l : List Cd}, (∀ z, .inl z ∈ l → PyData.canLay0 (.str z) = true) → PyData.canLayAll0 (l.map cdD) = true
  | [], _ => rfl
  | .inl z :: r, h => by
    show (PyData.canLay0 (.str z) && PyData.canLayAll0 (r.map cdD)) = true
    rw [h z List.mem_cons_self, cd_lay fun y hy => h y (List.mem_cons_of_mem _ hy)]
    rfl
  | .inr n :: r, h => by
    show (PyData.canLay0 (.int _) && PyData.canLayAll0 (r.map cdD)) = true
    rw [cd_lay fun y hy => h y (List.mem_cons_of_mem _ hy)]
    rfl
theorem cd_words : ∀ {b : Bt} {z : Str}, b.all okN = true → .inl z ∈ b.cd → PyData.canLay0 (.str z) = true
  | .bd n, z, _, h => by cases List.mem_singleton.mp h
  | .fr y, z, hb, h => by cases List.mem_singleton.mp h; exact Bt.ok_lay hb
  | .of b, z, hb, h => by
    rcases List.mem_cons.mp h with h | h
    · cases h; decide +kernel
    · exact cd_words (b := b) hb h
  | .to a b, z, hb, h => by
    rcases List.mem_cons.mp h with h | h
    · cases h; decide +kernel
    · rcases List.mem_append.mp h with h | h
      · exact cd_words (Bool.and_eq_true_iff.mp hb).1 h
      · exact cd_words (Bool.and_eq_true_iff.mp hb).2 h
theorem cd_depth : ∀ l : List Cd, PyData.depthAll (l.map cdD) = 0
  | [] => rfl
  | .inl z :: r => by show max 0 _ = 0; rw [cd_depth r]; rfl
  | .inr n :: r => by show max 0 _ = 0; rw [cd_depth r]; rfl
theorem cd_shaped {b : Bt} (hb : b.all okN = true) : SeqAt.shaped (.list (b.cd.map cdD)) = true := by
  unfold SeqAt.shaped
  rw [Bool.and_eq_true]
  refine ⟨cd_lay fun z hz => cd_words hb hz, decide_eq_true ?_⟩
  show PyData.depthAll (b.cd.map cdD) + 1 ≤ 64
  rw [cd_depth]
  decide
end TG
/-! building a writing of a row of signs; new names -/
namespace TG
open PySem PySem.Spec L2
open PyProof.Rows hiding St
theorem ip_addS {X : Cx} : PIp X .Add rAddS := fun ps s σ H x y v u Q I r1 r2 h => in_addS ps s σ H x y v u Q I r1 r2 h
/-- a row of signs in whose names writings may stand -/
inductive Tr where
  | lf (v : V)
  | of (x : Str) (b : Tr)
  | to (a b : Tr)
namespace Tr
def sz : Tr → Nat
  | lf _ => 1
  | of _ b => b.sz + 1
  | to a b => a.sz + b.sz + 1
/-- a sign's pair -/
def hd : Tr → V × V
  | lf v => (.str "name", v)
  | of x _ => (.str "of", .str x)
  | to _ _ => (.str "to", .non)
def ents : Tr → List (V × V)
  | lf v => [hd (lf v)]
  | of x b => hd (of x b) :: b.ents
  | to a b => hd (to a b) :: (a.ents ++ b.ents)
theorem ents_len : ∀ t : Tr, t.ents.length = t.sz
  | lf _ => rfl
  | of _ b => by show b.ents.length + 1 = _; rw [ents_len b]; rfl
  | to a b => by show (a.ents ++ b.ents).length + 1 = _; rw [List.length_append, ents_len a, ents_len b]; rfl
def kids : Tr → List Tr
  | lf _ => []
  | of _ b => [b]
  | to a b => [a, b]
theorem ents_kids (t : Tr) : t.ents = t.hd :: t.kids.flatMap ents := by
  cases t with
  | lf _ => rfl
  | of x b => show _ :: b.ents = _ :: (b.ents ++ []); rw [List.append_nil]
  | to a b => show _ :: (a.ents ++ b.ents) = _ :: (a.ents ++ (b.ents ++ [])); rw [List.append_nil]
def nxt : List Tr → List Tr
  | [] => []
  | t :: r => t.kids ++ r
/-- what is left of it behind so many signs -/
def fo (t : Tr) : Nat → List Tr
  | 0 => [t]
  | i + 1 => nxt (fo t i)
theorem fo_drop (t : Tr) : ∀ i, i ≤ t.sz → t.ents.drop i = (fo t i).flatMap ents
  | 0, _ => by show t.ents = t.ents ++ []; rw [List.append_nil]
  | i + 1, h => by
    have ih := fo_drop t i (by omega)
    have e : t.ents.drop i ≠ [] := fun z => by
      have := congrArg List.length z
      rw [List.length_drop, ents_len] at this
      have : t.sz - i = 0 := this
      omega
    rw [← List.tail_drop, ih]
    show _ = (nxt (fo t i)).flatMap ents
    cases q : fo t i with
    | nil => rw [q] at ih; exact absurd ih e
    | cons s r =>
      show (s.ents ++ r.flatMap ents).tail = (s.kids ++ r).flatMap ents
      rw [ents_kids s, List.flatMap_append]
      rfl
theorem fo_head (t : Tr) {i : Nat} (h : i < t.sz) : ∃ s r, fo t i = s :: r ∧ t.ents[i]? = some s.hd := by
  have e := fo_drop t i (Nat.le_of_lt h)
  cases q : fo t i with
  | nil =>
    rw [q] at e
    have := congrArg List.length e
    rw [List.length_drop, ents_len] at this
    have : t.sz - i = 0 := this
    omega
  | cons s r =>
    refine ⟨s, r, rfl, ?_⟩
    rw [q] at e
    rw [← List.head?_drop, e]
    show (s.ents ++ _).head? = _
    rw [ents_kids]
    rfl
theorem fo_end (t : Tr) : fo t t.sz = [] := by
  have e := fo_drop t t.sz (Nat.le_refl _)
  rw [List.drop_eq_nil_iff.mpr (by rw [ents_len]; exact Nat.le_refl _)] at e
  cases q : fo t t.sz with
  | nil => rfl
  | cons s r =>
    rw [q] at e
    have e : [] = s.ents ++ r.flatMap ents := e
    rw [ents_kids] at e
    cases e
end Tr
/-- it stands at v -/
inductive TV (H : Hp) : V → Tr → Prop where
  | lf (v : V) : TV H v (.lf v)
  | of {a : Addr} {x : Str} {v : V} {b : Tr} : H a = some (.tup [.str "of", .str x, v]) → TV H v b → TV H (.ref a) (.of x b)
  | to {a : Addr} {u v : V} {b c : Tr} : H a = some (.tup [.str "to", u, v]) → TV H u b → TV H v c → TV H (.ref a) (.to b c)
theorem TV.mono {H H' : Hp} {v : V} {t : Tr} (h : TV H v t) (k : ∀ a xs, H a = some (.tup xs) → H' a = some (.tup xs)) : TV H' v t := by
  induction h with
  | lf v => exact .lf v
  | of e _ ih => exact .of (k _ _ e) ih
  | to e _ _ i1 i2 => exact .to (k _ _ e) i1 i2
/-- which writing it is -/
inductive TW (H : Hp) : Tr → Wr → Prop where
  | lf {v : V} {w : Wr} : WA H v w → TW H (.lf v) w
  | of {x : Str} {b : Tr} {w : Wr} : TW H b w → TW H (.of x b) (.of x w)
  | to {a b : Tr} {w u : Wr} : TW H a w → TW H b u → TW H (.to a b) (.to w u)
theorem TV.wa {H : Hp} {v : V} {t : Tr} {w : Wr} (h : TV H v t) (k : TW H t w) : WA H v w := by
  induction h generalizing w with
  | lf v => cases k with | lf h => exact h
  | of e _ ih => cases k with | of h => exact .of e (ih h)
  | to e _ _ i1 i2 => cases k with | to h1 h2 => exact .to e (i1 h1) (i2 h2)
theorem TW.same {H H' : Hp} {t : Tr} {w : Wr} (h : TW H t w) (s : Same H H') : TW H' t w := by
  induction h with
  | lf h => exact .lf (h.same s)
  | of _ ih => exact .of ih
  | to _ _ i1 i2 => exact .to i1 i2
/-- the pairs stand in a list -/
def EntsAt (H : Hp) (g : Addr) (t : Tr) : Prop := ∃ ts : List Addr, H g = some (.lst (ts.map V.ref)) ∧ ts.length = t.sz ∧ ∀ (i : Nat) (p : V × V) (a : Addr), t.ents[i]? = some p → ts[i]? = some a → H a = some (.tup [p.1, p.2])
theorem EntsAt.same {H H' : Hp} {g : Addr} {t : Tr} (h : EntsAt H g t) (s : Same H H') : EntsAt H' g t := let ⟨ts, h1, h2, h3⟩ := h; ⟨ts, s _ _ h1, h2, fun i p a x y => s _ _ (h3 i p a x y)⟩
def spBuilt : Sp := fun vs H Q _ => ∃ (g : Addr) (t : Tr), vs = [.ref g] ∧ EntsAt H g t ∧ t.sz ≤ 100000 ∧ ∀ (v : V) (H' : Hp), Same H H' → TV H' v t → Q v H'
/-- a writing as such a row -/
def Wr.tr : Wr → Tr
  | .nm z => .lf (.str z)
  | .of x b => .of x b.tr
  | .to a b => .to a.tr b.tr
theorem Wr.tr_sz : ∀ w : Wr, w.tr.sz = w.sg
  | .nm _ => rfl
  | .of _ b => congrArg (· + 1) (Wr.tr_sz b)
  | .to a b => by show a.tr.sz + b.tr.sz + 1 = _; rw [Wr.tr_sz a, Wr.tr_sz b]; rfl
theorem Wr.tr_ents : ∀ w : Wr, w.tr.ents = w.subs.map fun s => (V.str s.wd, nvV s)
  | .nm _ => rfl
  | .of x b => by show _ :: b.tr.ents = _; rw [Wr.tr_ents b]; rfl
  | .to a b => by show _ :: (a.tr.ents ++ b.tr.ents) = _; rw [Wr.tr_ents a, Wr.tr_ents b, ← List.map_append]; rfl
theorem Wr.tr_tw (H : Hp) : ∀ w : Wr, TW H w.tr w
  | .nm z => .lf (.nm z)
  | .of _ b => .of (Wr.tr_tw H b)
  | .to a b => .to (Wr.tr_tw H a) (Wr.tr_tw H b)
/-- a part of a row of signs -/
theorem ents_part {H : Hp} {g2 : Addr} {w s : Wr} {i : Nat} {ts : List Addr} (hl : ts.length = w.sg) (ht : ∀ (i : Nat) (s : Wr) (t : Addr), w.subs[i]? = some s → ts[i]? = some t → H t = some (.tup [.str s.wd, nvV s])) (hs : w.subs[i]? = some s)
    (h2 : H g2 = some (.lst (((ts.drop i).take s.sg).map V.ref))) : EntsAt H g2 s.tr := by
  have fit := Wr.subs_fit hs
  refine ⟨_, h2, by rw [List.length_take, List.length_drop, hl, s.tr_sz]; omega, fun j p a hp ha => ?_⟩
  rw [s.tr_ents, List.getElem?_map] at hp
  obtain ⟨u, hu, rfl⟩ := Option.map_eq_some_iff.mp hp
  have hj := Wr.subs_lt hu
  rw [List.getElem?_take, if_pos hj, List.getElem?_drop] at ha
  exact ht (i + j) u a ((Wr.subs_at hs j hj).trans hu) ha
def spPart (C : Addr) : Sp := fun vs H Q _ => ∃ (l : Addr) (w s : Wr) (i : Nat), vs = [.ref l, .int (i : Int)] ∧ LayAt C H l w ∧ w.sg ≤ 2000 ∧ w.subs[i]? = some s ∧ ∀ (v : V) (H' : Hp), Same H H' → WA H' v s → Q v H'
end TG
namespace TF07
open PySem PySem.Spec L2 TG TA
open PyProof.Rows hiding St
abbrev sBuilt : Stmt := top 25
abbrev sPart : Stmt := top 26
theorem scBuilt : FnScope ["signs", "parts", "word", "name", "one"] ["signs"] (defScope sBuilt) := ⟨rfl, rfl, rfl, by decide +kernel, rfl, by decide +kernel, by decide +kernel⟩
theorem scPart : FnScope ["layout", "at"] ["layout", "at"] (defScope sPart) := ⟨rfl, rfl, rfl, by decide +kernel, rfl, by decide +kernel, by decide +kernel⟩
section
variable {P : Program} {w : World} {K : PySem.W.Frag} {mg : Str → Option Value} {base : Heap} {f f1 f2 f3 : Addr} {fd fd1 fd2 fd3 : FuncData}
theorem ok_built (F : Fun K "built" "built" sBuilt f fd) (T : Bn mg) (W : Lw mg) : FnOk P w K mg base CX0 1 f fd ["signs"] spBuilt := by
  refine F.ok scBuilt (fun vs H Q E h => ?_) (fun cdv A outer s H vs Q E hr h => ?_)
  · obtain ⟨g, t, rfl, _⟩ := h
    rfl
  obtain ⟨g, t, rfl, ⟨ts, hg, hgl, hgt⟩, hn, q⟩ := h
  obtain ⟨tOf, gOf⟩ := W.of_
  obtain ⟨tTo, gTo⟩ := W.to_
  refine ⟨_, (pss_cons (ps_set (i := 1) scBuilt.nd rfl (.inl rfl) (pe_lst pa_nil))
      (pss_cons (ps_for PassesOwn.never rfl (pi_reversed (by rfl) T.b_reversed (pa_cons (pv 0) pa_nil)) (pg_tup (by rfl) (pgs_cons (pg_name (i := 2) scBuilt.nd rfl (.inl rfl)) (pgs_cons (pg_name (i := 3) scBuilt.nd rfl (.inl rfl)) pgs_nil)))
        (pss_one (ps_if (pt_cmpR op_eq (pv 2) (pe_glob (v := .str "of") rfl gOf ⟨_, rfl⟩) (nomark _)) (pss_one (ps_expr (pe_bm PySem.F.plainAttrs_list PySem.F.slot_list_append PySem.F.type_list_append mt_append (pv 1) (pa_cons (pe_tup (pa_cons (pe_glob (v := .str "of") rfl gOf ⟨_, rfl⟩) (pa_cons (pv 3) (pa_cons (pe_bm0 PySem.F.plainAttrs_list PySem.F.slot_list_pop PySem.F.type_list_pop mt_pop (pv 1)) pa_nil)))) pa_nil)))) (pss_one (ps_if (pt_cmpR op_eq (pv 2) (pe_glob (v := .str "to") rfl gTo ⟨_, rfl⟩) (nomark _)) (pss_cons (ps_set (i := 4) scBuilt.nd rfl (.inl rfl) (pe_bm0 PySem.F.plainAttrs_list PySem.F.slot_list_pop PySem.F.type_list_pop mt_pop (pv 1)))
            (pss_one (ps_expr (pe_bm PySem.F.plainAttrs_list PySem.F.slot_list_append PySem.F.type_list_append mt_append (pv 1) (pa_cons (pe_tup (pa_cons (pe_glob (v := .str "to") rfl gTo ⟨_, rfl⟩) (pa_cons (pv 4) (pa_cons (pe_bm0 PySem.F.plainAttrs_list PySem.F.slot_list_pop PySem.F.type_list_pop mt_pop (pv 1)) pa_nil)))) pa_nil))))) (pss_one (ps_expr (pe_bm PySem.F.plainAttrs_list PySem.F.slot_list_append PySem.F.type_list_append mt_append (pv 1) (pa_cons (pv 3) pa_nil)))))))))
      (pss_one (ps_ret (pe_ix ix_list (pv 1) pe_int (fun _ _ => rfl)))))), ?_⟩
  refine ⟨Nat.zero_le _, fun L hL => ?_⟩
  have L0 : H L = none := hL
  have s1 : Same H (L2.upd H L (.lst [])) := same_new hL
  have hnl : (ts.map V.ref).length = t.sz := by rw [List.length_map, hgl]
  refine ⟨_, rfl, g, _, rfl, SqL.of (s1 _ _ hg), ?_⟩
  refine for_it (walk_rev (xs := ts.map V.ref)) (fun k σ H2 => ∃ (v2 v3 v4 : Option V) (vs : List V), σ = [some (.ref g), some (.ref L), v2, v3, v4] ∧ Same H H2 ∧ H2 L = some (.lst vs.reverse) ∧ vs.length ≤ k ∧ Paired (TV H2) vs (t.fo (t.sz - k))) ?_ ?_ ?_ ?_
  · exact ⟨none, none, none, [], rfl, s1, upd_same, Nat.le_refl _, by rw [Nat.sub_zero, t.fo_end]; exact .nil⟩
  · rintro k σ H2 _ ⟨_, _, _, _, _, s2, _⟩
    exact SqL.of (s2 _ _ hg)
  · rintro k x σ H2 H3 hk ⟨v2, v3, v4, vs, rfl, s2, hl, hvl, hv⟩ ⟨rfl, hx⟩
    rw [hnl] at hk hx
    obtain ⟨i, hi⟩ : ∃ i, i = t.sz - 1 - k := ⟨_, rfl⟩
    rw [← hi, List.getElem?_map] at hx
    obtain ⟨a, ha, rfl⟩ := Option.map_eq_some_iff.mp hx
    obtain ⟨s', r, hfo, hhd⟩ := t.fo_head (i := i) (by omega)
    have ha2 := hgt i _ a hhd ha
    have e1 : t.sz - k = i + 1 := by omega
    have e2 : t.sz - (k + 1) = i := by omega
    rw [e1] at hv
    have hv : Paired (TV H3) vs (Tr.nxt (t.fo i)) := hv
    rw [hfo] at hv
    have hsl : vs.length + 1 < sizeLine := small_le (by omega)
    have tup_ne : ∀ {b : Addr} {xs : List V}, H3 b = some (.tup xs) → b ≠ L := fun h => ne_of h hl (by intro z; cases z)
    have keepT : ∀ (G : Hp), (∀ b u, b ≠ L → H3 b = some u → G b = some u) → ∀ {v : V} {u : Tr}, TV H3 v u → TV G v u := fun G k v u h => h.mono fun b xs e => k b _ (tup_ne e) e
    cases s' with
    | lf v =>
      have ha3 : H3 a = some (.tup [.str "name", v]) := s2 _ _ ha2
      refine ⟨a, _, rfl, SqT.of ha3, rfl, _, _, rfl, _, _, rfl, rfl, ?_⟩
      have hv : Paired (TV H3) vs r := hv
      refine ⟨_, rfl, rfl, _, rfl, ?_⟩
      rw [show decide (V.str "name" = V.str "of") = false by decide +kernel]
      refine iteF ⟨_, rfl, rfl, _, rfl, ?_⟩
      rw [show decide (V.str "name" = V.str "to") = false by decide +kernel]
      refine iteF ⟨_, rfl, .inl ⟨rfl, _, SqL.of hl⟩, _, rfl, L, _, _, rfl, rfl, hl, by rw [List.length_reverse]; omega, ?_⟩
      refine ⟨_, _, _, v :: vs, rfl, same_put s2 L0, by rw [upd_same, List.reverse_cons], by show vs.length + 1 ≤ k + 1; omega, ?_⟩
      rw [e2, hfo]
      exact .cons (.lf v) (paired_imp (fun _ _ h => keepT _ (fun b u n e => by rw [upd_ne n]; exact e) h) hv)
    | of x b =>
      have ha3 : H3 a = some (.tup [.str "of", .str x]) := s2 _ _ ha2
      refine ⟨a, _, rfl, SqT.of ha3, rfl, _, _, rfl, _, _, rfl, rfl, ?_⟩
      obtain _ | @⟨vb, _, vr, _, h1, h2⟩ := (show Paired (TV H3) vs (b :: r) from hv)
      rw [List.reverse_cons] at hl
      refine ⟨_, rfl, rfl, _, rfl, iteT ?_⟩
      refine ⟨_, rfl, .inl ⟨rfl, _, SqL.of hl⟩, _, rfl, _, rfl, .inl ⟨rfl, _, SqL.of hl⟩, L, _, vb, rfl, rfl, hl, last_snoc _ _, ?_⟩
      rw [List.dropLast_concat]
      refine ⟨(by show 3 ≤ sizeLine; decide), fun p hp => ?_⟩
      have hl2 : (L2.upd H3 L (.lst vr.reverse)) L = some (.lst vr.reverse) := upd_same
      have nLp : L ≠ p := ne_of_none hl2 hp
      have s3 : Same H (L2.upd (L2.upd H3 L (.lst vr.reverse)) p (.tup [.str "of", .str x, vb])) := (same_put s2 L0).trans (same_new hp)
      have hvl2 : vr.length + 1 ≤ k := hvl
      refine ⟨L, _, _, rfl, rfl, by rw [upd_ne nLp]; exact hl2, by rw [List.length_reverse]; exact small_le (by omega), ?_⟩
      have kk : ∀ c u, c ≠ L → H3 c = some u → (L2.upd (L2.upd (L2.upd H3 L (.lst vr.reverse)) p (.tup [.str "of", .str x, vb])) L (.lst (vr.reverse ++ [.ref p]))) c = some u := fun c u n e => by
        rw [upd_ne n]
        exact same_new hp c u (by rw [upd_ne n]; exact e)
      refine ⟨_, _, _, .ref p :: vr, rfl, same_put s3 L0, by rw [upd_same, List.reverse_cons], by show vr.length + 1 ≤ k + 1; omega, ?_⟩
      rw [e2, hfo]
      exact .cons (.of (by rw [upd_ne (Ne.symm nLp), upd_same]) (keepT _ kk h1)) (paired_imp (fun _ _ h => keepT _ kk h) h2)
    | to b c =>
      have ha3 : H3 a = some (.tup [.str "to", .non]) := s2 _ _ ha2
      refine ⟨a, _, rfl, SqT.of ha3, rfl, _, _, rfl, _, _, rfl, rfl, ?_⟩
      obtain _ | @⟨vb, _, vr1, _, h1, h2⟩ := (show Paired (TV H3) vs (b :: c :: r) from hv)
      obtain _ | @⟨vc, _, vr, _, h3, h4⟩ := h2
      rw [List.reverse_cons] at hl
      refine ⟨_, rfl, rfl, _, rfl, ?_⟩
      rw [show decide (V.str "to" = V.str "of") = false by decide +kernel]
      refine iteF ⟨_, rfl, rfl, _, rfl, iteT ?_⟩
      refine ⟨_, rfl, .inl ⟨rfl, _, SqL.of hl⟩, L, _, vb, rfl, rfl, hl, last_snoc _ _, ?_⟩
      rw [List.dropLast_concat, List.reverse_cons]
      have hl2 : (L2.upd H3 L (.lst (vr.reverse ++ [vc]))) L = some (.lst (vr.reverse ++ [vc])) := upd_same
      refine ⟨_, rfl, .inl ⟨rfl, _, SqL.of hl2⟩, _, rfl, _, rfl, .inl ⟨rfl, _, SqL.of hl2⟩, L, _, vc, rfl, rfl, hl2, last_snoc _ _, ?_⟩
      rw [List.dropLast_concat]
      refine ⟨(by show 3 ≤ sizeLine; decide), fun p hp => ?_⟩
      have hl3 : (L2.upd (L2.upd H3 L (.lst (vr.reverse ++ [vc]))) L (.lst vr.reverse)) L = some (.lst vr.reverse) := upd_same
      have nLp : L ≠ p := ne_of_none hl3 hp
      have s3 : Same H (L2.upd (L2.upd (L2.upd H3 L (.lst (vr.reverse ++ [vc]))) L (.lst vr.reverse)) p (.tup [.str "to", vb, vc])) := (same_put (same_put s2 L0) L0).trans (same_new hp)
      have hvl2 : vr.length + 1 + 1 ≤ k := hvl
      refine ⟨L, _, _, rfl, rfl, by rw [upd_ne nLp]; exact hl3, by rw [List.length_reverse]; exact small_le (by omega), ?_⟩
      have kk : ∀ c' u, c' ≠ L → H3 c' = some u → (L2.upd (L2.upd (L2.upd (L2.upd H3 L (.lst (vr.reverse ++ [vc]))) L (.lst vr.reverse)) p (.tup [.str "to", vb, vc])) L (.lst (vr.reverse ++ [.ref p]))) c' = some u := fun c' u n e => by
        rw [upd_ne n]
        exact same_new hp c' u (by rw [upd_ne n, upd_ne n]; exact e)
      refine ⟨_, _, _, .ref p :: vr, rfl, same_put s3 L0, by rw [upd_same, List.reverse_cons], by show vr.length + 1 ≤ k + 1; omega, ?_⟩
      rw [e2, hfo]
      exact .cons (.to (by rw [upd_ne (Ne.symm nLp), upd_same]) (keepT _ kk h1) (keepT _ kk h3)) (paired_imp (fun _ _ h => keepT _ kk h) h4)
  · rintro σ H2 ⟨v2, v3, v4, vs, rfl, s2, hl, hvl, hv⟩
    rw [hnl, Nat.sub_self] at hv
    obtain _ | @⟨v, _, vr, _, h1, h2⟩ := (show Paired (TV H2) vs [t] from hv)
    cases h2
    exact ⟨_, rfl, L, _, _, v, rfl, rfl, SqL.of hl, atI_nat (j := 0) rfl, q v H2 s2 h1⟩
theorem ok_part {C fI : Addr} (F : Fun K "built_part" "built_part" sPart f fd) (T : Bn mg) (Z : LayC K mg C fI) (D_built : Df K mg "built" sBuilt f1 fd1 ["signs"]) (G_built : FnOk P w K mg base CX0 1 f1 fd1 ["signs"] spBuilt) : FnOk P w K mg base CX0 2 f fd ["layout", "at"] (spPart C) := by
  refine F.ok scPart (fun vs H Q E h => ?_) (fun cdv A outer s H vs Q E hr h => ?_)
  · obtain ⟨l, wr, s', i, rfl, _⟩ := h
    rfl
  obtain ⟨l, wr, s', i, rfl, ⟨g, e, b, a, d, dx, hl, ⟨ts, hg, hgl, hgt⟩, ⟨xs, he, hx, hxs⟩, _⟩, hn, hs, q⟩ := h
  refine ⟨_, (pss_one (ps_ret (pe_cd D_built G_built hr (by decide) (pa_cons (pe_slice sl_list (pe_fld (pv 0) (by rfl)) (po_some (pv 1)) (po_some (pe_ix ix_list (pe_fld (pv 0) (by rfl)) (pv 1) (fun _ _ => rfl)))) pa_nil)))), ?_⟩
  have fit := Wr.subs_fit hs
  have hin := Wr.subs_lt hs
  refine ⟨_, rfl, l, C, dx, _, _, rfl, hl, Z.cl, Z.nS, lay_signs g e b a d, _, rfl, _, rfl, _, rfl, l, C, dx, _, _, rfl, hl, Z.cl, Z.nE, lay_ends g e b a d, _, rfl, e, _, _, _, rfl, rfl, SqL.of he, atI_nat (hxs i s' hs), _, rfl, g, _, rfl, SqL.of hg, fun p hp => ?_⟩
  have cut : cutV (ts.map V.ref) (some (i : Int)) (some ((i + s'.sg : Nat) : Int)) = ((ts.drop i).take s'.sg).map V.ref := by
    unfold cutV
    rw [HT.sIx_nat, HT.sIx_nat, List.length_map, hgl, Nat.min_eq_left (by omega), Nat.min_eq_left (by omega), ← List.map_drop, ← List.map_take, Nat.add_sub_cancel_left]
  rw [cut]
  have s1 : Same H (L2.upd H p (.lst (((ts.drop i).take s'.sg).map V.ref))) := same_new hp
  refine ⟨p, s'.tr, rfl, ents_part hgl (fun i s t x y => s1 _ _ (hgt i s t x y)) hs upd_same, by rw [s'.tr_sz]; omega, fun v H' s2 hv => q v H' (s1.trans s2) (hv.wa (s'.tr_tw H'))⟩
end
end TF07
set_option maxHeartbeats 400000
/-! the place of each sign -/
namespace TG
open PySem PySem.Spec L2
open PyProof.Rows hiding St
namespace Wr
/-- the places of the signs, p is where the whole stands -/
def pths : Wr → List Nat → List (List Nat)
  | nm _, p => [p]
  | of _ b, p => p :: b.pths (p ++ [0])
  | to a b, p => p :: (a.pths (p ++ [0]) ++ b.pths (p ++ [1]))
theorem pths_len : ∀ (w : Wr) (p : List Nat), (w.pths p).length = w.sg
  | nm _, _ => rfl
  | of x b, p => by show (b.pths _).length + 1 = _; rw [pths_len b]; rfl
  | to a b, p => by show (a.pths _ ++ b.pths _).length + 1 = _; rw [List.length_append, pths_len a, pths_len b]; rfl
theorem pths_zero : ∀ (w : Wr) (p : List Nat), (w.pths p)[0]? = some p
  | nm _, _ => rfl
  | of _ _, _ => rfl
  | to _ _, _ => rfl
theorem pths_at : ∀ {w s : Wr} {i : Nat} {p : List Nat}, w.subs[i]? = some s → ∃ e, ∀ j, j < s.sg → (w.pths p)[i + j]? = (s.pths e)[j]?
  | w, s, 0, p, h => by
    rw [subs_zero] at h
    cases h
    exact ⟨p, fun j _ => by rw [Nat.zero_add]⟩
  | nm _, s, i + 1, p, h => nomatch h
  | of x b, s, i + 1, p, h => by
    obtain ⟨e, he⟩ := pths_at (w := b) (p := p ++ [0]) (show b.subs[i]? = some s from h)
    refine ⟨e, fun j hj => ?_⟩
    rw [show i + 1 + j = (i + j) + 1 by omega]
    exact he j hj
  | to a b, s, i + 1, p, h => by
    have h : (a.subs ++ b.subs)[i]? = some s := h
    by_cases c : i < a.subs.length
    · rw [List.getElem?_append_left c] at h
      obtain ⟨e, he⟩ := pths_at (w := a) (p := p ++ [0]) h
      refine ⟨e, fun j hj => ?_⟩
      rw [show i + 1 + j = (i + j) + 1 by omega]
      show (a.pths (p ++ [0]) ++ _)[i + j]? = _
      have f := subs_fit h
      rw [List.getElem?_append_left (by rw [pths_len]; omega)]
      exact he j hj
    · rw [List.getElem?_append_right (by omega), subs_len] at h
      rw [subs_len] at c
      obtain ⟨e, he⟩ := pths_at (w := b) (p := p ++ [1]) h
      refine ⟨e, fun j hj => ?_⟩
      rw [show i + 1 + j = (i + j) + 1 by omega]
      show (a.pths (p ++ [0]) ++ b.pths (p ++ [1]))[i + j]? = _
      rw [List.getElem?_append_right (by rw [pths_len]; omega), pths_len, show i + j - a.sg = (i - a.sg) + j by omega]
      exact he j hj
/-- the place of the sign at i -/
def path (w : Wr) (i : Nat) : List Nat := ((w.pths [])[i]?).getD []
theorem path_zero (w : Wr) : w.path 0 = [] := by
  unfold path
  rw [pths_zero]
  rfl
theorem pths_kid : ∀ {s : Wr} {e : List Nat} {st d : Nat}, s.kids[st]? = some d → d < s.sg ∧ (s.pths e)[d]? = some (e ++ [st])
  | nm _, _, st, d, h => nomatch h
  | of x b, e, 0, d, h => by
    cases h
    have := b.sg_pos
    exact ⟨by show 1 < b.sg + 1; omega, pths_zero b _⟩
  | of x b, e, st + 1, d, h => nomatch h
  | to a b, e, 0, d, h => by
    cases h
    have := a.sg_pos
    refine ⟨by show 1 < a.sg + b.sg + 1; omega, ?_⟩
    show (a.pths (e ++ [0]) ++ b.pths (e ++ [1]))[0]? = _
    rw [List.getElem?_append_left (by rw [pths_len]; omega)]
    exact pths_zero a _
  | to a b, e, 1, d, h => by
    cases h
    have := b.sg_pos
    refine ⟨by show 1 + a.sg < a.sg + b.sg + 1; omega, ?_⟩
    rw [show 1 + a.sg = a.sg + 1 by omega]
    show (a.pths (e ++ [0]) ++ b.pths (e ++ [1]))[a.sg]? = _
    rw [List.getElem?_append_right (by rw [pths_len]; omega), pths_len, Nat.sub_self]
    exact pths_zero b _
  | to a b, e, st + 2, d, h => nomatch h
theorem path_kid {w s : Wr} {i st d : Nat} (h : w.subs[i]? = some s) (hk : s.kids[st]? = some d) : w.path (i + d) = w.path i ++ [st] := by
  obtain ⟨e, he⟩ := pths_at (p := []) h
  obtain ⟨l, k⟩ := pths_kid (e := e) hk
  unfold path
  rw [he d l, k]
  have h0 := he 0 s.sg_pos
  rw [Nat.add_zero, pths_zero] at h0
  rw [h0]
  rfl
theorem path_at {w : Wr} {i : Nat} (h : i < w.sg) : (w.pths [])[i]? = some (w.path i) := by
  have l : i < (w.pths []).length := by rw [pths_len]; exact h
  unfold path
  rw [List.getElem?_eq_getElem l]
  rfl
theorem path_len {w : Wr} : ∀ {i : Nat}, i < w.sg → (w.path i).length ≤ i := by
  intro i
  induction i using Nat.strongRecOn with
  | ind i ih =>
    intro hi
    rcases Nat.eq_zero_or_pos i with rfl | pos
    · rw [path_zero]; exact Nat.le_refl 0
    obtain ⟨j, s, k, hj, hs, hk, rfl⟩ := has_par pos hi
    obtain ⟨st, hst⟩ := List.mem_iff_getElem?.mp hk
    rw [path_kid hs hst, List.length_append]
    have := ih j hj (by omega)
    show _ + 1 ≤ _
    omega
theorem pths_pre : ∀ (w : Wr) (e : List Nat), w.pths e = (w.pths []).map (e ++ ·)
  | nm _, e => by show [e] = [e ++ []]; rw [List.append_nil]
  | of x b, e => by
    show e :: b.pths (e ++ [0]) = (e ++ []) :: (b.pths [0]).map (e ++ ·)
    rw [pths_pre b (e ++ [0]), pths_pre b [0], List.append_nil, List.map_map]
    congr 1
    exact List.map_congr_left fun z _ => List.append_assoc e [0] z
  | to a b, e => by
    show e :: (a.pths (e ++ [0]) ++ b.pths (e ++ [1])) = (e ++ []) :: (a.pths [0] ++ b.pths [1]).map (e ++ ·)
    rw [pths_pre a (e ++ [0]), pths_pre b (e ++ [1]), pths_pre a [0], pths_pre b [1], List.append_nil, List.map_append, List.map_map, List.map_map]
    congr 2
    · exact List.map_congr_left fun z _ => List.append_assoc e [0] z
    · exact List.map_congr_left fun z _ => List.append_assoc e [1] z
/-- the place of a sign within a part -/
theorem path_in {w s : Wr} {j m : Nat} (h : w.subs[j]? = some s) (hm : m < s.sg) : w.path (j + m) = w.path j ++ s.path m := by
  obtain ⟨e, he⟩ := pths_at (p := []) h
  have h0 := he 0 s.sg_pos
  rw [Nat.add_zero, pths_zero] at h0
  have h1 := he m hm
  rw [pths_pre s e, List.getElem?_map, path_at hm] at h1
  unfold path
  rw [h1, h0]
  rfl
/-- a sign within a part, not the part's first, is within one of its own parts -/
theorem descend : ∀ {s : Wr} {m : Nat}, 0 < m → m < s.sg → ∃ (st d : Nat) (s' : Wr), s.kids[st]? = some d ∧ s.subs[d]? = some s' ∧ d ≤ m ∧ m < d + s'.sg
  | nm _, m, h, h2 => by
    have h2 : m < 1 := h2
    omega
  | of x b, m, h, h2 => by
    have h2 : m < b.sg + 1 := h2
    exact ⟨0, 1, b, rfl, subs_zero b, by omega, by omega⟩
  | to a b, m, h, h2 => by
    have h2 : m < a.sg + b.sg + 1 := h2
    have pa := a.sg_pos
    by_cases c : m < 1 + a.sg
    · refine ⟨0, 1, a, rfl, ?_, by omega, by omega⟩
      show (a.subs ++ b.subs)[0]? = _
      rw [List.getElem?_append_left (by rw [subs_len]; omega)]
      exact subs_zero a
    · refine ⟨1, 1 + a.sg, b, rfl, ?_, by omega, by omega⟩
      rw [show 1 + a.sg = a.sg + 1 by omega]
      show (a.subs ++ b.subs)[a.sg]? = _
      rw [List.getElem?_append_right (by rw [subs_len]; omega), subs_len, Nat.sub_self]
      exact subs_zero b
/-- one step down the way to the sign m of a part -/
theorem down {s : Wr} {m : Nat} (h : 0 < m) (h2 : m < s.sg) : ∃ (st d : Nat) (s' : Wr), s.kids[st]? = some d ∧ s.subs[d]? = some s' ∧ d ≤ m ∧ m - d < s'.sg ∧ s.path m = st :: s'.path (m - d) := by
  obtain ⟨st, d, s', h3, h4, h5, h6⟩ := descend h h2
  refine ⟨st, d, s', h3, h4, h5, by omega, ?_⟩
  have e := path_in h4 (m := m - d) (by omega)
  rw [show d + (m - d) = m by omega] at e
  have e2 := path_kid (w := s) (i := 0) (subs_zero s) h3
  rw [Nat.zero_add, path_zero] at e2
  rw [e, e2]
  rfl
end Wr
end TG
namespace TF07
open PySem PySem.Spec L2 TG TA
open PyProof.Rows hiding St
abbrev sPlaces : Stmt := top 30
theorem scPlaces : FnScope ["layout", "places", "at", "parts", "step", "part"] ["layout"] (defScope sPlaces) := ⟨rfl, rfl, rfl, by decide +kernel, rfl, by decide +kernel, by decide +kernel⟩
section
variable {P : Program} {w : World} {K : PySem.W.Frag} {mg : Str → Option Value} {base : Heap} {f f1 f2 f3 : Addr} {fd fd1 fd2 fd3 : FuncData}
/-- the list of the signs' places -/
def PlaceT (H : Hp) (a : Addr) (ns : List Nat) : Prop := H a = some (.tup (ns.map fun n => V.int ((n : Nat) : Int)))
def PlsAt (H : Hp) (p : Addr) (w : Wr) : Prop := ∃ as : List Addr, H p = some (.lst (as.map V.ref)) ∧ as.length = w.sg ∧ ∀ (i : Nat) (a : Addr), as[i]? = some a → PlaceT H a (w.path i)
def spPlaces (C : Addr) : Sp := fun vs H Q _ => ∃ (l : Addr) (w : Wr), vs = [.ref l] ∧ LayAt C H l w ∧ w.sg ≤ 2000 ∧ ∀ (p : Addr) (H' : Hp), Same H H' → H p = none → PlsAt H' p w → Q (.ref p) H'
theorem ok_places {C fI : Addr} (F : Fun K "places_in" "places_in" sPlaces f fd) (T : Bn mg) (Z : LayC K mg C fI) : FnOk P w K mg base CX0 1 f fd ["layout"] (spPlaces C) := by
  refine F.ok scPlaces (fun vs H Q E h => ?_) (fun cdv A outer s H vs Q E hr h => ?_)
  · obtain ⟨l, wr, rfl, _⟩ := h
    rfl
  obtain ⟨l, wr, rfl, ⟨g, e, b, a, d, dx, hl, ⟨ts, hg, hgl, hgt⟩, he, ⟨bs, hb, hbl, hbt⟩, ha, hd⟩, hn, q⟩ := h
  refine ⟨_, (pss_cons (ps_set (i := 1) scPlaces.nd rfl (.inl rfl) (pe_op op_rep (pe_lst (pa_cons (pe_tup pa_nil) pa_nil)) (pe_callB call_len_seq (by rfl) T.b_len (by decide +kernel) (pa_cons (pe_fld (pv 0) (by rfl)) pa_nil))))
      (pss_cons (ps_for PassesOwn.never rfl (pi_enum (by rfl) T.b_enumerate (pa_cons (pe_fld (pv 0) (by rfl)) pa_nil)) (pg_tup (by rfl) (pgs_cons (pg_name (i := 2) scPlaces.nd rfl (.inl rfl)) (pgs_cons (pg_name (i := 3) scPlaces.nd rfl (.inl rfl)) pgs_nil)))
        (pss_one (ps_for PassesOwn.never rfl (pi_enum (by rfl) T.b_enumerate (pa_cons (pv 3) pa_nil)) (pg_tup (by rfl) (pgs_cons (pg_name (i := 4) scPlaces.nd rfl (.inl rfl)) (pgs_cons (pg_name (i := 5) scPlaces.nd rfl (.inl rfl)) pgs_nil)))
          (pss_one (ps_asg (pe_op op_catA (pe_ix ix_list (pv 1) (pv 2) (fun _ _ => rfl)) (pe_tup (pa_cons (pv 4) pa_nil))) (pg_sub (pv 1) (pv 5) set_list))))))
      (pss_one (ps_ret (pv 1))))), ?_⟩
  have hn2 : (ts.map V.ref).length = wr.sg := by rw [List.length_map, hgl]
  refine ⟨(by show 0 ≤ sizeLine; exact Nat.zero_le _), fun t0 ht0 => ⟨(by show 1 ≤ sizeLine; decide), fun l0 hl0 => ?_⟩⟩
  have s0 : Same H (L2.upd (L2.upd H t0 (.tup [])) l0 (.lst [.ref t0])) := (same_new ht0).trans (same_new hl0)
  have h00 : (L2.upd (L2.upd H t0 (.tup [])) l0 (.lst [.ref t0])) t0 = some (.tup []) := (same_new hl0) _ _ upd_same
  refine ⟨_, rfl, l, C, dx, _, _, rfl, s0 _ _ hl, Z.cl, Z.nS, lay_signs g e b a d, g, _, rfl, .inl (SqL.of (s0 _ _ hg)), ?_⟩
  rw [hn2]
  refine ⟨_, _, _, rfl, rfl, upd_same, by omega, by omega, (by show 1 * ((wr.sg : Int)).toNat ≤ sizeLine; exact Nat.le_of_lt (small_le (by omega))), fun p hp => ?_⟩
  have p0 : H p = none := s0.free hp
  have np0 : p ≠ t0 := fun z => by rw [z, h00] at hp; cases hp
  have rep : (List.replicate ((wr.sg : Int)).toNat [V.ref t0]).flatten = (List.replicate wr.sg t0).map V.ref := by
    rw [Int.toNat_natCast, List.map_replicate]
    generalize wr.sg = n
    induction n with
    | zero => rfl
    | succ n ih => rw [List.replicate_succ, List.flatten_cons, ih, List.replicate_succ]; rfl
  rw [rep]
  have s1 : Same H (L2.upd (L2.upd (L2.upd H t0 (.tup [])) l0 (.lst [.ref t0])) p (.lst ((List.replicate wr.sg t0).map V.ref))) := s0.trans (same_new hp)
  have h01 := (same_new (o := .lst ((List.replicate wr.sg t0).map V.ref)) hp) _ _ h00
  have hp1 : (L2.upd (L2.upd (L2.upd H t0 (.tup [])) l0 (.lst [.ref t0])) p (.lst ((List.replicate wr.sg t0).map V.ref))) p = some (.lst ((List.replicate wr.sg t0).map V.ref)) := upd_same
  generalize L2.upd (L2.upd (L2.upd H t0 (.tup [])) l0 (.lst [.ref t0])) p (.lst ((List.replicate wr.sg t0).map V.ref)) = Ha at s1 h01 hp1 ⊢
  clear s0 h00 hp rep
  have hbn : (bs.map V.ref).length = wr.sg := by rw [List.length_map, hbl]
  refine ⟨_, rfl, l, C, dx, _, _, rfl, s1 _ _ hl, Z.cl, Z.nB, lay_below g e b a d, b, _, rfl, SqL.of (s1 _ _ hb), ?_⟩
  refine for_it (walk_enum (xs := bs.map V.ref)) (fun k σ G => ∃ (as : List Addr) (v2 v3 v4 v5 : Option V), σ = [some (.ref l), some (.ref p), v2, v3, v4, v5] ∧ Same H G ∧ G p = some (.lst (as.map V.ref)) ∧ as.length = wr.sg ∧
    (∀ a, as[0]? = some a → PlaceT G a []) ∧ ∀ (i : Nat) (s : Wr) (st d : Nat) (a : Addr), i < k → wr.subs[i]? = some s → s.kids[st]? = some d → as[i + d]? = some a → PlaceT G a (wr.path (i + d))) ?_ ?_ ?_ ?_
  · refine ⟨_, none, none, none, none, rfl, s1, hp1, List.length_replicate, fun a h => ?_, fun i s st d a h => absurd h (Nat.not_lt_zero i)⟩
    have e := List.eq_of_mem_replicate (List.mem_of_getElem? h)
    rw [e]
    exact h01
  · rintro i σ G _ ⟨as, v2, v3, v4, v5, rfl, s2, _⟩
    exact SqL.of (s2 _ _ hb)
  · rintro k x σ G G3 hk ⟨as, v2, v3, v4, v5, rfl, s2, hpG, hal, has0, has⟩ ⟨tp, y1, y2, rfl, htp, rfl, e1, e2⟩
    cases e1
    rw [hbn] at hk
    obtain ⟨s, hs⟩ := wr_get wr hk
    have e2 : (bs.map V.ref)[k]? = some y2 := e2
    rw [List.getElem?_map] at e2
    obtain ⟨bk, hbk1, rfl⟩ := Option.map_eq_some_iff.mp e2
    have hbk2 := hbt k s bk hs hbk1
    have ntp : p ≠ tp := ne_of_none hpG htp
    have x3 := new_same (o := .tup [.int ((k : Nat) : Int), .ref bk]) htp
    have s3 := s2.trans x3
    obtain ⟨ak, hak⟩ : ∃ ak, as[k]? = some ak := get_lt (by rw [hal]; exact hk)
    have hkp : PlaceT G ak (wr.path k) := by
      rcases Nat.eq_zero_or_pos k with rfl | pos
      · rw [Wr.path_zero]
        exact has0 ak hak
      · obtain ⟨j, s', d', hj, hs', hd', rfl⟩ := Wr.has_par pos hk
        obtain ⟨st, hst⟩ := List.mem_iff_getElem?.mp hd'
        exact has j s' st d' ak hj hs' hst hak
    refine ⟨tp, _, rfl, SqT.of upd_same, rfl, _, _, rfl, _, _, rfl, rfl, ?_⟩
    refine ⟨_, rfl, bk, _, rfl, SqL.of (s3 _ _ hbk2), ?_⟩
    refine for_it (walk_enum (xs := kidV k s)) (fun t σ G4 => ∃ (as : List Addr) (v4 v5 : Option V), σ = [some (.ref l), some (.ref p), some (.int (k : Int)), some (.ref bk), v4, v5] ∧ Same H G4 ∧ G4 p = some (.lst (as.map V.ref)) ∧ as.length = wr.sg ∧ (∃ ak, as[k]? = some ak ∧ PlaceT G4 ak (wr.path k)) ∧
      (∀ a, as[0]? = some a → PlaceT G4 a []) ∧ (∀ (i : Nat) (s : Wr) (st d : Nat) (a : Addr), i < k → wr.subs[i]? = some s → s.kids[st]? = some d → as[i + d]? = some a → PlaceT G4 a (wr.path (i + d))) ∧
      ∀ (st d : Nat) (a : Addr), st < t → s.kids[st]? = some d → as[k + d]? = some a → PlaceT G4 a (wr.path (k + d))) ?_ ?_ ?_ ?_
    · exact ⟨as, v4, v5, rfl, s3, x3 _ _ hpG, hal, ⟨ak, hak, x3 _ _ hkp⟩, fun a h => x3 _ _ (has0 a h), fun i s st d a h1 h2 h3 h4 => x3 _ _ (has i s st d a h1 h2 h3 h4), fun st d a h => absurd h (Nat.not_lt_zero st)⟩
    · rintro t σ G4 _ ⟨as, v4, v5, rfl, s4, _⟩
      exact SqL.of (s4 _ _ hbk2)
    · rintro t x σ G4 G5 ht ⟨as, v4, v5, rfl, s4, hp4, hal4, ⟨ak, hak, hkp⟩, has0, has, hast⟩ ⟨tq, z1, z2, rfl, htq, rfl, e1, e2⟩
      cases e1
      have e2 : (s.kids.map fun k2 => V.int ((k + k2 : Nat) : Int))[t]? = some z2 := e2
      rw [List.getElem?_map] at e2
      obtain ⟨d', hd', rfl⟩ := Option.map_eq_some_iff.mp e2
      have x5 := new_same (o := .tup [.int ((t : Nat) : Int), .int ((k + d' : Nat) : Int)]) htq
      have ntq : p ≠ tq := ne_of_none hp4 htq
      have kd : k + d' < wr.sg := by
        have f := Wr.subs_fit hs
        have := (Wr.pths_kid (e := []) hd').1
        omega
      have long := Wr.path_len hk
      refine ⟨tq, _, rfl, SqT.of upd_same, rfl, _, _, rfl, _, _, rfl, rfl, ?_⟩
      refine ⟨_, rfl, _, rfl, p, _, _, .ref ak, rfl, rfl, SqL.of (x5 _ _ hp4), atI_nat (j := k) (by rw [List.getElem?_map, hak]; rfl), _, rfl, (by show 1 ≤ sizeLine; decide), fun tt htt => ?_⟩
      have x6 := x5.trans (new_same (o := .tup [.int ((t : Nat) : Int)]) htt)
      have hkp6 := x6 _ _ hkp
      refine ⟨ak, tt, _, _, rfl, rfl, SqT.of hkp6, SqT.of upd_same, by rw [List.length_map, sizeLine_eq]; show _ + 1 ≤ _; omega, fun e => ?_, fun _ e => absurd e (List.cons_ne_nil _ _), fun _ _ a' ha' => ?_⟩
      focus
        have e3 : wr.path k = [] := List.map_eq_nil_iff.mp e
        have new : PlaceT (L2.upd (L2.upd G4 tq (.tup [.int ((t : Nat) : Int), .int ((k + d' : Nat) : Int)])) tt (.tup [.int ((t : Nat) : Int)])) tt (wr.path (k + d')) := by
          unfold PlaceT
          rw [Wr.path_kid hs hd', e3, upd_same]
          rfl
        generalize L2.upd (L2.upd G4 tq (.tup [.int ((t : Nat) : Int), .int ((k + d' : Nat) : Int)])) tt (.tup [.int ((t : Nat) : Int)]) = G6 at x6 new ⊢
        generalize tt = a' at new ⊢
      rotate_left
      focus
        have x7 := x6.trans (new_same (o := .tup ((wr.path k).map (fun n => V.int ((n : Nat) : Int)) ++ [.int ((t : Nat) : Int)])) ha')
        have new : PlaceT (L2.upd (L2.upd (L2.upd G4 tq (.tup [.int ((t : Nat) : Int), .int ((k + d' : Nat) : Int)])) tt (.tup [.int ((t : Nat) : Int)])) a' (.tup ((wr.path k).map (fun n => V.int ((n : Nat) : Int)) ++ [.int ((t : Nat) : Int)]))) a' (wr.path (k + d')) := by
          unfold PlaceT
          rw [Wr.path_kid hs hd', List.map_append, upd_same]
          rfl
        clear x6 hkp6
        have x6 := x7
        clear x7
        generalize L2.upd (L2.upd (L2.upd G4 tq (.tup [.int ((t : Nat) : Int), .int ((k + d' : Nat) : Int)])) tt (.tup [.int ((t : Nat) : Int)])) a' (.tup ((wr.path k).map (fun n => V.int ((n : Nat) : Int)) ++ [.int ((t : Nat) : Int)])) = G6 at x6 new ⊢
      all_goals
        have hp6 := x6 _ _ hp4
        have keepP : ∀ {c : Addr} {ns : List Nat} {o : HO}, PlaceT G6 c ns → PlaceT (L2.upd G6 p o) c ns := fun {c ns o} h => by
          unfold PlaceT at h ⊢
          rw [upd_ne (ne_of h hp6 (by intro z; cases z))]
          exact h
        have ones : ∀ {i : Nat} {c : Addr}, (as.set (k + d') a')[i]? = some c → (i = k + d' ∧ c = a') ∨ as[i]? = some c := fun {i c} h => by
          by_cases e : k + d' = i
          · rw [← e, List.getElem?_set_self (by omega)] at h
            exact .inl ⟨e.symm, (Option.some.inj h).symm⟩
          · rw [List.getElem?_set_ne e] at h
            exact .inr h
        have s6 := s4.trans x6
        refine ⟨_, rfl, _, rfl, p, _, _, k + d', rfl, rfl, hp6, ixN_of (by rw [List.length_map]; omega), ?_⟩
        refine ⟨as.set (k + d') a', _, _, rfl, same_put s6 p0, by rw [upd_same, List.map_set], by rw [List.length_set]; exact hal4, ?_, fun c h => ?_, fun i s2 st d2 c h1 h2 h3 h4 => ?_, fun st d2 c h1 h2 h3 => ?_⟩
        · obtain ⟨c, hc⟩ : ∃ c, (as.set (k + d') a')[k]? = some c := get_lt (by rw [List.length_set, hal4]; exact hk)
          refine ⟨c, hc, keepP ?_⟩
          rcases ones hc with ⟨e, rfl⟩ | h
          · rw [e]; exact new
          · rw [hak] at h; cases h; exact x6 _ _ hkp
        · refine keepP ?_
          rcases ones h with ⟨e, rfl⟩ | h
          · rw [← e, Wr.path_zero] at new; exact new
          · exact x6 _ _ (has0 c h)
        · refine keepP ?_
          rcases ones h4 with ⟨e, rfl⟩ | h
          · rw [e]; exact new
          · exact x6 _ _ (has i s2 st d2 c h1 h2 h3 h)
        · refine keepP ?_
          rcases Nat.lt_or_ge st t with lt | ge
          · rcases ones h3 with ⟨e, rfl⟩ | h
            · rw [e]; exact new
            · exact x6 _ _ (hast st d2 c lt h2 h)
          · obtain rfl : st = t := by omega
            rw [hd'] at h2
            cases h2
            rw [List.getElem?_set_self (by omega)] at h3
            cases h3
            exact new
    rintro σ G4 ⟨as, v4, v5, rfl, s4, hp4, hal4, _, has0, has, hast⟩
    refine ⟨as, _, _, v4, v5, rfl, s4, hp4, hal4, has0, fun i s' st d a h1 h2 h3 h4 => ?_⟩
    rcases Nat.lt_or_ge i k with c | c
    · exact has i s' st d a c h2 h3 h4
    · obtain rfl : i = k := by omega
      rw [hs] at h2
      cases h2
      exact hast st d a (by unfold kidV; rw [List.length_map]; exact lt_get h3) h3 h4
  · rintro σ G ⟨as, v2, v3, v4, v5, rfl, s2, hpG, hal, has0, has⟩
    rw [hbn] at has
    refine ⟨_, rfl, q p G s2 p0 ⟨as, hpG, hal, fun i a h => ?_⟩⟩
    have hi : i < wr.sg := by rw [← hal]; exact lt_get h
    rcases Nat.eq_zero_or_pos i with rfl | pos
    · rw [Wr.path_zero]
      exact has0 a h
    · obtain ⟨j, s', d', hj, hs', hd', rfl⟩ := Wr.has_par pos hi
      obtain ⟨st, hst⟩ := List.mem_iff_getElem?.mp hd'
      exact has j s' st d' a (by omega) hs' hst h
theorem paired_join {α β : Type} {R : α → β → Prop} : ∀ {xs xs' : List α} {ys ys' : List β}, Paired R xs ys → Paired R xs' ys' → Paired R (xs ++ xs') (ys ++ ys')
  | _, _, _, _, .nil, h => h
  | _, _, _, _, .cons a t, h => .cons a (paired_join t h)
def TupsN (H : Hp) (as : List Addr) (ps : List (List Nat)) : Prop := Paired (fun a ns => PlaceT H a ns) as ps
def plD (ns : List Nat) : PyData := .tuple (ns.map fun n => PyData.int ((n : Nat) : Int))
def plsD (ps : List (List Nat)) : PyData := .tuple (ps.map plD)
theorem place_dp {H : Hp} {a : Addr} {ns : List Nat} (h : PlaceT H a ns) : Dp K H (.ref a) (plD ns) := by
  refine .tup (SqT.of h) ?_
  clear h
  induction ns with
  | nil => exact .nil
  | cons n ns ih => exact .cons (.int _) ih
theorem places_dp {H : Hp} {t : Addr} {as : List Addr} {ps : List (List Nat)} (h : SqT K H t (as.map V.ref)) (k : TupsN H as ps) : Dp K H (.ref t) (plsD ps) := by
  refine .tup h ?_
  clear h
  unfold TupsN at k
  induction k with
  | nil => exact .nil
  | cons a _ ih => exact .cons (place_dp a) ih
theorem pl_lay (ns : List Nat) : (plD ns).canLay0 = true ∧ (plD ns).depth ≤ 1 := by
  unfold plD
  induction ns with
  | nil => exact ⟨rfl, Nat.le_refl _⟩
  | cons n ns ih =>
    obtain ⟨i1, i2⟩ := ih
    refine ⟨i1, ?_⟩
    exact i2
theorem pls_lay (ps : List (List Nat)) : (plsD ps).canLay0 = true ∧ (plsD ps).depth ≤ 2 := by
  unfold plsD
  induction ps with
  | nil => exact ⟨rfl, by decide⟩
  | cons ns ps ih =>
    obtain ⟨i1, i2⟩ := ih
    obtain ⟨j1, j2⟩ := pl_lay ns
    refine ⟨?_, ?_⟩
    · show ((plD ns).canLay0 && PyData.canLayAll0 (ps.map plD)) = true
      rw [j1]
      exact i1
    · have i3 : PyData.depthAll (ps.map plD) + 1 ≤ 2 := i2
      show max (plD ns).depth (PyData.depthAll (ps.map plD)) + 1 ≤ 2
      omega
theorem pls_shaped (ps : List (List Nat)) : SeqAt.shaped (plsD ps) = true := by
  obtain ⟨h1, h2⟩ := pls_lay ps
  unfold SeqAt.shaped
  rw [h1, decide_eq_true (by omega : (plsD ps).depth ≤ 64)]
  rfl
end
end TF07
/-! own rules: the sum of a tuple, enumerate of a tuple, zip of tuples as a walk; one of two readings -/
namespace TG
open PySem PySem.Spec L2
open PyProof.Rows hiding St
section
variable {X : Cx}
/-- sum(t), t a tuple of ints -/
def rSumT (K : PySem.W.Frag) : List V → Hp → VK → Prop := fun vs H Q => ∃ (t : Addr) (ns : List Int), vs = [V.ref t] ∧ SqT K H t (ns.map V.int) ∧ Q (.int ns.sum) H
theorem cr_sumT (hc : X.calm = true) : CallR X (.builtin "sum") (rSumT X.K) := by
  intro pins s σ H vs us Q I r h
  obtain ⟨t, ns, rfl, ht, q⟩ := h
  obtain ⟨its, rv, it, _⟩ := I.tuple ht
  cases Vals.ref1 r
  obtain ⟨xs, e⟩ := rv.ints.allInts.items
  have hn := rv.ints.numsOf
  rw [e] at it
  refine PySem.W.ktm_sumG (I.ok.hd hc) it fun h' tk t' k => ⟨.int ns.sum, H, I.kept k, ⟨t', ?_⟩, q⟩
  have e2 : numsOf (intItems xs).toList = ns := by
    rw [← e]
    exact hn
  rw [nums_intItems] at e2
  rw [preSum_eq, List.take_of_length_le (by simp), e2]
end
/-! ### enumerate(tuple) -/
theorem meets_enum1 {v : Value} {o : Obj} {G : Heap → Prop} (B : Begins v o G) :
    Meets (Builtin.«enumerate.__new__» ⟨[.type "enumerate", v], []⟩) (fun _ R s => G s.heap ∧
      R (.ok (.ret (.ref (s.heap.push o).objs.size))) { s with heap := (s.heap.push o).push { cls := .type "enumerate", data := .fields #[.none, .bool false, .ref s.heap.objs.size, rawInt 0, .none, .none] } }) := by
  refine .of_wp fun prog w A R s h => ?_
  obtain ⟨hp, g, d, tk, os⟩ := s
  obtain ⟨g1, h⟩ := h
  have hsub := sub_enumerate
  have step : ∀ {A2 : Around} {E : Value → Shared → Prop} {Q : Value → Shared → Prop}, Q (.ref hp.objs.size) ⟨hp.push o, g, d, tk, os⟩ → wpAny (model prog w) A2 (pyIter v) Q E ⟨hp, g, d, tk, os⟩ := by
    intro A2 E Q q
    exact B.iter prog w _ _ ⟨hp, g, d, tk, os⟩ _ g1 q
  wp_walk using step
  refine wpAny_stack_any fun st => wpAny_pure ?_
  split
  · rename_i c _ _ _ _ _
    by_cases e : (c == Value.type "enumerate") = true
    all_goals
      simp only [e]
      wp_walk using step
      exact ⟨_, rfl, h⟩
  · wp_walk using step
    exact ⟨_, rfl, h⟩
section
variable {prog : Program} {w : World} {A : Around} {E : Value → Shared → Prop} {s : Shared}
theorem call_enum1 {v : Value} {o : Obj} {G : Heap → Prop} {Q : Value → Shared → Prop} (B : Begins v o G) (g1 : G s.heap)
    (h : ∀ h2, IsEnum h2 (s.heap.objs.size + 1) s.heap.objs.size 0 .none → h2.get? s.heap.objs.size = some o → (∀ b u, s.heap.get? b = some u → h2.get? b = some u) → Q (.ref (s.heap.objs.size + 1)) { s with heap := h2 }) :
    wpAny (model prog w) A (call (.type "enumerate") [v]) Q E s := by
  have hz : (s.heap.push o).objs.size = s.heap.objs.size + 1 := Heap.size_push ..
  refine callType_new F.called_enumerate (by decide) (F.typeCall_enumerate_1 v) (F.newCall_enumerate_1 v) (fun x => F.args_object_init_2 x v) F.entry_enumerate_new (meets_enum1 B) ⟨g1, ?_⟩
  have at1 : ((s.heap.push o).push { cls := .type "enumerate", data := .fields #[.none, .bool false, .ref s.heap.objs.size, rawInt 0, .none, .none] }).get? (s.heap.push o).objs.size = some { cls := .type "enumerate", data := .fields #[.none, .bool false, .ref s.heap.objs.size, rawInt 0, .none, .none] } :=
    Heap.get?_push_size _ rfl
  rw [hz] at at1
  show _ ∧ _
  rw [hz]
  exact ⟨⟨_, at1, rfl⟩, h _ at1 (Heap.get?_push_of_some _ (Heap.get?_push_size _ B.free)) fun b u e => Heap.get?_push_of_some _ (Heap.get?_push_of_some _ e)⟩
end
/-- the tuple at a as it stands at each turn, each item in a new pair -/
def IteT (K : PySem.W.Frag) (a : Addr) : It :=
  ⟨fun i H => ∃ (xs : List V) (x : V), SqT K H a xs ∧ xs[i]? = some x,
   fun i H v H' => ∃ T x, v = .ref T ∧ H T = none ∧ H' = upd H T (.tup [.int (i : Nat), x]) ∧ ∀ xs, SqT K H a xs → xs[i]? = some x,
   fun i H => ∃ xs : List V, SqT K H a xs ∧ xs.length ≤ i⟩
theorem turn_enumT {P : Program} {w : World} {K : PySem.W.Frag} {elts : List Expr} {kk : Nat} {tpos : Pos} (a e it : Addr) :
    Turn P w K (.Tuple elts kk tpos) (IteT K a) [e, it] e (fun i h => (∃ old, IsEnum h e it ((i : Nat) : Int) old) ∧ h.IsTupleIter it a i ∧ e ≠ it) := by
  refine ⟨by simp, fun i h st b hb => ?_, fun i h h2 st k => ?_, ?_, ?_, ?_⟩
  · obtain ⟨⟨old, he⟩, ⟨o, ho, _, hd⟩, _⟩ := st
    rcases List.mem_cons.mp hb with rfl | hb
    · exact ⟨_, he, fun v q => nomatch q⟩
    · cases List.mem_singleton.mp hb
      exact ⟨o, ho, fun v q => nomatch hd.symm.trans q⟩
  · obtain ⟨⟨old, he⟩, hi, ne⟩ := st
    exact ⟨⟨old, k e List.mem_cons_self _ he⟩, hi.at fun o q => k it (by simp) o q, ne⟩
  · intro X hP hw hK hc i pins s σ H E I hf st hg
    cases hP; cases hw; cases hK
    obtain ⟨⟨old, he⟩, hit, ne⟩ := st
    obtain ⟨xs, x, hq, hx⟩ := hg
    obtain ⟨its, rv, tp, _⟩ := I.tuple hq
    obtain ⟨u, hu, ru⟩ := rv.get hx
    have le : e < s.heap.objs.size := Heap.lt_size he
    have li : it < s.heap.objs.size := let ⟨_, q, _⟩ := hit; Heap.lt_size q
    have ae : e ∉ [it, a] := by
      intro z
      rcases List.mem_cons.mp z with z | z
      · exact ne z
      · cases List.mem_singleton.mp z
        obtain ⟨o, ho, hcl, _⟩ := id tp
        have z2 := he.symm.trans ho
        cases z2
        exact nomatch (show Value.type "enumerate" = Value.type "tuple" from hcl)
    have ai : a ≠ it := by
      intro z
      subst z
      obtain ⟨o, ho, hcl, _⟩ := id tp
      obtain ⟨o2, ho2, hcl2, _⟩ := id hit
      have z2 := ho.symm.trans ho2
      cases z2
      exact nomatch (show Value.type "tuple" = Value.type "tuple_iterator" from hcl.symm.trans hcl2)
    have hI : its.toArray[i]? = some u := by simpa using hu
    have hlt : i < its.toArray.size := (Array.getElem?_eq_some_iff.mp hI).1
    refine wpAny_pyNext_enum_itemD (Draws.tuple (A := X.A.in1) (by simpa using I.ok.hd hc) it a ai its.toArray) he ⟨hit, tp⟩ hlt ne ae fun y h2 tk hy ho st2 hT _ hk => ?_
    cases Option.some.inj (hI.symm.trans hy)
    refine ⟨_, rfl, wpAny_letOwnedTupleGo_enum (s := { s with heap := h2, toks := tk + 1 }) ho fun h3 he3 sb => ?_⟩
    have hT3 : h3.get? s.heap.objs.size = some { cls := .type "tuple", data := .seq #[.int i tk, u] } := (sb.2 _ (Nat.ne_of_gt le)).trans hT
    have fresh := I.hok.fresh (Nat.le_refl s.heap.objs.size)
    have I1 : Inv X pins σ (upd H s.heap.objs.size (.tup [.int (i : Nat), x])) { s with heap := h3, toks := tk + 1 } := by
      refine I.turnedNew (ch := [e, it]) (fun b ob hb q => ?_) hf (Nat.le_refl _) ⟨by show 2 ≤ sizeLine; decide, [.int i tk, u], .cons ⟨_, rfl⟩ (.cons ru .nil), ⟨_, hT3, rfl, _, rfl⟩⟩
      have b1 : b ≠ e := fun z => hb (by simp [z])
      have b2 : b ≠ it := fun z => hb (by simp [z])
      exact (sb.2 b b1).trans (hk b ob b1 b2 q)
    refine ⟨.ref s.heap.objs.size, _, I1, rfl, ⟨_, x, rfl, fresh, rfl, fun ys hy => by rw [I.tuple_inj hy hq]; exact hx⟩, ⟨⟨u, by simpa using he3⟩, st2.1.at fun o q => (sb.2 it (Ne.symm ne)).trans q, ne⟩, fun b hb => ?_⟩
    have lb : b < s.heap.objs.size := by
      rcases List.mem_cons.mp hb with rfl | hb
      · exact le
      · cases List.mem_singleton.mp hb
        exact li
    rw [upd_ne (Nat.ne_of_lt lb)]
    exact (hf b hb).1
  · intro X hP hw hK hc i pins s σ H E I hf st hg
    cases hP; cases hw; cases hK
    obtain ⟨⟨old, he⟩, hit, ne⟩ := st
    obtain ⟨xs, hq, hx⟩ := hg
    obtain ⟨its, rv, tp, _⟩ := I.tuple hq
    have ai : a ≠ it := by
      intro z
      subst z
      obtain ⟨o, ho, hcl, _⟩ := id tp
      obtain ⟨o2, ho2, hcl2, _⟩ := id hit
      have z2 := ho.symm.trans ho2
      cases z2
      exact nomatch (show Value.type "tuple" = Value.type "tuple_iterator" from hcl.symm.trans hcl2)
    obtain ⟨f0, f1, f2, f3, f4, f5⟩ := hf it (by simp)
    have hl := rv.length
    have hT : s.TypeIs (.ref e) "enumerate" := ⟨_, he, rfl⟩
    unfold pyNext
    refine wpAny_bind (wpAny_attempt (wpAny_callSpecial?_slot (name := Str.ofString "__next__") hT F.slot_enumerate_next (wpAny_call_entry F.slot_enumerate_next hT F.entry_enumerate_next ?_ (F.args_enumerate_next_1 _))))
    show wpAny _ _ (field (.ref e) 2 >>= _) _ _ _
    refine wpAny_bind (wpAny_field he rfl (x := .ref it) rfl ?_)
    refine wpAny_bind (wpAny_nextOf_tuple_end (by simpa using I.ok.hd hc) hit tp (by simp; omega) fun h2 x ex hx2 => ?_)
    obtain ⟨o, ho, hcl⟩ := hx2
    refine wpAny_bind (wpAny_isInstance (T := "StopIteration") (b := true) ⟨o, ho, hcl⟩ isSubtype_stop ?_)
    exact wpAny_pure ⟨rfl, I.turned (t' := s.toks) (fun b u hb q => ex b u hb q) f0 f1 f3 f4 f5⟩
  · intro A i s Q E st h
    obtain ⟨⟨_, he⟩, _⟩ := st
    exact wpAny_pyIter_enum he h
def iEnumT (K : PySem.W.Frag) (ta : L2.TA) : TI := fun σ H R => ta σ H fun vs H1 => ∃ a xs, vs = [.ref a] ∧ SqT K H1 a xs ∧ R (IteT K a) H1
theorem pi_enumT {X : Cx} {e : Expr} {ta : L2.TA} {p pos tpos : Pos} {elts : List Expr} {kk : Nat} (hg : Gl X "enumerate") (hm : X.mg "enumerate" = none) (ha : PA X [e] ta) (hs : starEach [e] X.env = [(false, eval e X.env)] := by rfl) :
    PI X (.Tuple elts kk tpos) (.Call (.Name "enumerate" p) [e] [] pos) (iEnumT X.K ta) := by
  refine ⟨fun pins s σ H R I h => Call_ (ld_blt I hg hm boot_enumerate (PyProof.Rows.callWith_type1 (thn (ha.run pos pins s σ H _ I h) fun us s1 ⟨vs, H1, I1, r1, q1⟩ => ?_) hs rfl))⟩
  obtain ⟨a, xs, rfl, hq, q⟩ := q1
  cases Vals.ref1 r1
  obtain ⟨its, rv, tp, _⟩ := I1.tuple hq
  refine call_enum1 (begins_tuple a its.toArray) tp fun h2 he hit hk => wpAny_pyIter_enum he ?_
  have I2 : Inv X pins σ H1 { s1 with heap := h2 } := I1.kept (t' := s1.toks) hk
  refine ⟨s1.heap.objs.size + 1, [s1.heap.objs.size + 1, s1.heap.objs.size], _, _, H1, rfl, I2, turn_enumT a (s1.heap.objs.size + 1) s1.heap.objs.size, ⟨⟨.none, he⟩, ⟨_, hit, rfl, rfl⟩, Nat.succ_ne_self _⟩, fun b hb => ?_, q⟩
  have lb : s1.heap.objs.size ≤ b := by
    rcases List.mem_cons.mp hb with rfl | hb
    · omega
    · cases List.mem_singleton.mp hb
      exact Nat.le_refl _
  exact I1.fpOk lb (I1.hok.fresh lb)
section
variable {K : PySem.W.Frag} {a b : Addr} {xs ys : List V}
theorem walk_enumT : Walk (IteT K a) xs.length (fun H => SqT K H a xs) (YPair (fun i => some (.int (i : Nat))) (fun i => xs[i]?)) := by
  constructor
  · exact fun i _ hi q => ⟨xs, xs[i], q, by simp [hi]⟩
  · exact fun _ q => ⟨xs, q, Nat.le_refl _⟩
  · rintro i H v H' _ q ⟨T, x, h1, h2, h3, h4⟩
    exact ⟨T, .int (i : Nat), x, h1, h2, h3, rfl, h4 xs q⟩
theorem walk_zipT {n : Nat} (hn : n = min xs.length ys.length) : Walk (RZ.ItzT K a b) n (fun H => SqT K H a xs ∧ SqT K H b ys) (YPair (fun i => xs[i]?) (fun i => ys[i]?)) := by
  constructor
  · intro i _ hi q
    have h1 : i < xs.length := by omega
    have h2 : i < ys.length := by omega
    exact ⟨xs, ys, xs[i], ys[i], q.1, q.2, by simp [h1], by simp [h2]⟩
  · exact fun _ q => ⟨xs, ys, q.1, q.2, by omega⟩
  · rintro i H v H' _ q ⟨T, x, z, h1, h2, h3, h4, h5⟩
    exact ⟨T, x, z, h1, h2, h3, h4 xs q.1, h5 ys q.2⟩
end
/-! ### one of two readings -/
section
variable {X : Cx}
def eTwo (t1 t2 : TE) : TE := fun σ H Q => t1 σ H Q ∨ t2 σ H Q
def sTwo (t1 t2 : TS) : TS := fun D σ H => t1 D σ H ∨ t2 D σ H
theorem pe_or2 {e : Expr} {t1 t2 : TE} (h1 : PE X e t1) (h2 : PE X e t2) : PE X e (eTwo t1 t2) :=
  ⟨fun pins s σ H Q I h => h.elim (fun h => h1.run pins s σ H Q I h) fun h => h2.run pins s σ H Q I h⟩
theorem ps_or2 {st : Stmt} {t1 t2 : TS} (h1 : PS X st t1) (h2 : PS X st t2) : PS X st (sTwo t1 t2) :=
  ⟨fun pins s σ H D I h => h.elim (fun h => h1.run pins s σ H D I h) fun h => h2.run pins s σ H D I h⟩
end
/-! ### a walk whose body is whatever stands there -/
section
variable {J : It} {n : Nat} {G : Hp → Prop} {Y : Nat → Hp → V → Hp → Prop}
theorem walk_in (w : Walk J n G Y) {Fin : Hp → Prop} {Body : V → Hp → (Hp → Prop) → Prop} {H0 : Hp} (Pv : Nat → Hp → Prop) (h0 : Pv 0 H0) (hG : ∀ i H, i ≤ n → Pv i H → G H)
    (hs : ∀ i x H H2, i < n → Pv i H → Y i H x H2 → Body x H2 (Pv (i + 1))) (hd : ∀ H, Pv n H → Fin H) :
    ∃ W : Nat → Nat → Hp → Prop, (∃ m, W 0 m H0) ∧ ∀ i m H, W i m H → (J.stop i H ∧ Fin H) ∨ (J.go i H ∧ ∃ Nx : Hp → Prop, (∀ H2, Nx H2 → ∃ m2, m2 < m ∧ W (i + 1) m2 H2) ∧ ∀ x H2, J.yld i H x H2 → Body x H2 Nx) := by
  refine ⟨fun i m H => m + i = n ∧ Pv i H, ⟨n, rfl, h0⟩, fun i m H hw => ?_⟩
  obtain ⟨e, p⟩ := hw
  have g := hG i H (by omega) p
  by_cases c : i < n
  · exact .inr ⟨w.goes i H c g, Pv (i + 1), fun H2 p2 => ⟨m - 1, by omega, by omega, p2⟩, fun x H2 y => hs i x H H2 c p (w.yields i H x H2 c g y)⟩
  · have e2 : i = n := by omega
    subst e2
    exact .inl ⟨w.stops H g, hd H p⟩
end
/-! ### a list or a tuple to be taken apart -/
section
variable {X : Cx}
def gTwo (t1 t2 : TG) : TG := fun v σ H Q => t1 v σ H Q ∨ t2 v σ H Q
theorem pg_or2 {e : Expr} {t1 t2 : TG} (h1 : PG X e t1) (h2 : PG X e t2) : PG X e (gTwo t1 t2) := by
  constructor
  intro pins s σ H x v Q I r h
  exact h.elim (fun h => h1.run pins s σ H x v Q I r h) fun h => h2.run pins s σ H x v Q I r h
end
/-! ### a list or a tuple, whichever it is -/
def SqX (K : PySem.W.Frag) (H : Hp) (a : Addr) (xs : List V) : Prop := SqL K H a xs ∨ SqT K H a xs
theorem SqX.of {K : PySem.W.Frag} {H : Hp} {a : Addr} {xs : List V} (h : H a = some (.lst xs) ∨ H a = some (.tup xs)) : SqX K H a xs := h.imp SqL.of SqT.of
section
variable {X : Cx} {tg : Expr}
def iSeq (K : PySem.W.Frag) (te : TE) : TI := fun σ H R => te σ H fun x H1 => ∃ a xs, x = .ref a ∧ SqX K H1 a xs ∧
  ∀ (J : It) (G : Hp → Prop), Walk J xs.length G (YAt xs) → (∀ H2, (∀ o, H1 a = some o → H2 a = some o) → G H2) → R J H1
theorem pi_seq {e : Expr} {te : TE} (he : PE X e te) : PI X tg e (iSeq X.K te) := by
  refine ⟨fun pins s σ H R I h => thn (he.run pins s σ H _ I h) fun v s1 ⟨x, H1, I1, r1, a, xs, ex, hq, q⟩ => ?_⟩
  cases ex
  cases r1
  have fp : ∀ b ∈ [s1.heap.objs.size], FpOk X pins H1 b := fun b hb => by
    cases List.mem_singleton.mp hb
    exact I1.fpOk (Nat.le_refl _) (I1.hok.fresh (Nat.le_refl _))
  rcases hq with hq | hq
  · obtain ⟨its, rv, pl, _⟩ := I1.list hq
    exact wpAny_pyIter_list pl.isList ⟨s1.heap.objs.size, [s1.heap.objs.size], _, _, H1, rfl, I1.kept (t' := s1.toks) fun b o z => Heap.get?_push_of_some _ z, turn_list a _, ⟨_, Heap.get?_push_size _ rfl, rfl, rfl⟩, fp, q _ _ walk_list fun H2 k => hq.imp (Or.imp (k _) fun ⟨o, z⟩ => ⟨o, k _ z⟩) id⟩
  · obtain ⟨its, rv, pl, _⟩ := I1.tuple hq
    exact wpAny_pyIter_tuple (show s1.heap.IsTuple a its.toArray from pl) ⟨s1.heap.objs.size, [s1.heap.objs.size], _, _, H1, rfl, I1.kept (t' := s1.toks) fun b o z => Heap.get?_push_of_some _ z, turn_tuple a _, ⟨_, Heap.get?_push_size _ rfl, rfl, rfl⟩, fp, q _ _ walk_tup fun H2 k => hq.imp (Or.imp (k _) fun ⟨o, z⟩ => ⟨o, k _ z⟩) id⟩
theorem stays {H G0 G : Hp} {a : Addr} {u v : HO} (hk : H a = some u ∨ H a = some v) (s0 : Same H G0) (s : Same H G) : ∀ o, G0 a = some o → G a = some o := by
  intro o e
  rcases hk with h | h
  · cases Option.some.inj ((s0 _ _ h).symm.trans e)
    exact s _ _ h
  · cases Option.some.inj ((s0 _ _ h).symm.trans e)
    exact s _ _ h
/-- tuple(x), x a list or a tuple -/
def rTupX (K : PySem.W.Frag) : List V → Hp → VK → Prop := fun vs H Q => ∃ a xs, vs = [V.ref a] ∧ SqX K H a xs ∧ ∀ p H2, Same H H2 → SqT K H2 p xs → Q (.ref p) H2
theorem call_tupX : CallR X (.type "tuple") (rTupX X.K) := by
  intro pins s σ H vs us Q I r h
  obtain ⟨a, xs, rfl, hq, q⟩ := h
  refine call_tuple_of pins s σ H _ us Q I r ⟨a, xs, rfl, ?_⟩
  rcases hq with hq | hq
  · exact .inl ⟨hq, fun l hl => q l _ (fun b o hb => by rw [upd_ne (ne_of_none hb hl)]; exact hb) (SqT.of upd_same)⟩
  · exact .inr ⟨hq, q a H (fun _ _ z => z) hq⟩
end
section
variable {X : Cx}
/-- list(x), x a list or a tuple -/
def rListX (K : PySem.W.Frag) : List V → Hp → VK → Prop := fun vs H Q => ∃ a xs, vs = [V.ref a] ∧ SqX K H a xs ∧ ∀ p, H p = none → Q (.ref p) (upd H p (.lst xs))
theorem call_listX : CallR X (.type "list") (rListX X.K) := call_list_of
end
/-- what is taken apart into two -/
theorem apart2 {K : PySem.W.Frag} {n : Nat} {t : TGs} {σ : L2.St} {H : Hp} {Q : L2.St → Hp → Prop} {a : Addr} {u x : V} (h : H a = some (.lst [u, x]) ∨ H a = some (.tup [u, x])) (hn : 2 = n) (q : t [u, x] σ H Q) : gTwo (gTup K n t) (gLst K n t) (.ref a) σ H Q := by
  rcases h with h | h
  · exact .inr ⟨a, _, rfl, SqL.of h, hn, q⟩
  · exact .inl ⟨a, _, rfl, SqT.of h, hn, q⟩
end TG
namespace TF07
open PySem PySem.Spec L2 TG TA
open PyProof.Rows hiding St
abbrev sIdx : Stmt := top 33
theorem scIdx : FnScope ["layout", "place", "at", "step", "parts"] ["layout", "place"] (defScope sIdx) := ⟨rfl, rfl, rfl, by decide +kernel, rfl, by decide +kernel, by decide +kernel⟩
/-- a place told as a tuple or as a list -/
def spIdx (K : PySem.W.Frag) (C : Addr) : Sp := fun vs H Q _ => ∃ (l a : Addr) (w : Wr) (i : Nat), vs = [.ref l, .ref a] ∧ LayAt C H l w ∧ i < w.sg ∧ w.sg ≤ 2000 ∧ (H a = some (.lst ((w.path i).map fun n => V.int ((n : Nat) : Int))) ∨ H a = some (.tup ((w.path i).map fun n => V.int ((n : Nat) : Int)))) ∧ ∀ H', Same H H' → Q (.int (i : Int)) H'
section
variable {P : Program} {w : World} {K : PySem.W.Frag} {mg : Str → Option Value} {base : Heap} {f f1 f2 f3 : Addr} {fd fd1 fd2 fd3 : FuncData}
theorem ok_idx {C fI : Addr} (F : Fun K "index_at" "index_at" sIdx f fd) (T : Bn mg) (Z : LayC K mg C fI) (D_is_within : Df K mg "is_within" sWithin f1 fd1 ["value", "least", "most"]) (G_is_within : FnOk P w K mg base CX0 2 f1 fd1 ["value", "least", "most"] (spWithin K)) : FnOk P w K mg base CX0 3 f fd ["layout", "place"] (spIdx K C) := by
  refine F.ok scIdx (fun vs H Q E h => ?_) (fun cdv A outer s H vs Q E hr h => ?_)
  · obtain ⟨l, a, wr, i, rfl, _⟩ := h
    rfl
  obtain ⟨l, pa, wr, i, rfl, hL, hi, hn, hx, q⟩ := h
  refine ⟨_, (pss_cons (ps_if (pt_not (pt_val (pe_callB call_isiT (by rfl) T.b_isinstance (by decide +kernel) (pa_cons (pv 1) (pa_cons (pe_tup (pa_cons (pe_bltn (v := .ty "list") (u := .type "list") (by rfl) T.b_list (by decide +kernel) rfl) (pa_cons (pe_bltn (v := .ty "tuple") (u := .type "tuple") (by rfl) T.b_tuple (by decide +kernel) rfl) pa_nil))) pa_nil))))) (pss_one ps_never) pss_nil)
      (pss_cons (ps_set (i := 2) scIdx.nd rfl (.inl rfl) pe_int)
      (pss_cons (ps_for PassesOwn.never rfl (pi_seq (pv 1)) (pg_name (i := 3) scIdx.nd rfl (.inl rfl))
        (pss_cons (ps_set (i := 4) scIdx.nd rfl (.inl rfl) (pe_ix ix_list (pe_fld (pv 0) (by rfl)) (pv 2) (fun _ _ => rfl)))
        (pss_cons (ps_if (pt_not (pt_val (pe_cd D_is_within G_is_within hr (by decide) (pa_cons (pv 3) (pa_cons pe_int (pa_cons (pe_op op_sub (pe_callB call_len_seq (by rfl) T.b_len (by decide +kernel) (pa_cons (pv 4) pa_nil)) pe_int) pa_nil)))))) (pss_one ps_never) pss_nil)
        (pss_one (ps_set (i := 2) scIdx.nd rfl (.inl rfl) (pe_ix ix_list (pv 4) (pv 3) (fun _ _ => rfl)))))))
      (pss_one (ps_ret (pv 2)))))), ?_⟩
  have hv : ∃ n : String, HasTy K H (.ref pa) n ∧ (n == "list" || n == "tuple") = true := by
    rcases hx with h | h
    · exact ⟨"list", HasTy.lst h, rfl⟩
    · exact ⟨"tuple", HasTy.tup h, rfl⟩
  obtain ⟨ty, hv, hty⟩ := hv
  obtain ⟨g, e, b, a, d, dx, hl, ⟨ts, hg, hgl, hgt⟩, he, ⟨bs, hb, hbl, hbt⟩, ha, hd⟩ := hL
  refine ⟨_, rfl, (by show 2 ≤ sizeLine; decide), fun tp htp => ?_⟩
  have s1 := new_same (o := .tup [.ty "list", .ty "tuple"]) htp
  refine ⟨.ref pa, tp, _, _, [.type "list", .type "tuple"], _, rfl, upd_same, .cons (.ty _) (.cons (.ty _) .nil), tyx_same hv.1 s1, kit_lt hv.2, _, rfl, ?_⟩
  rw [hty]
  refine iteF ?_
  have hx1 := hx.imp (s1 _ _) (s1 _ _)
  generalize L2.upd H tp (.tup [.ty "list", .ty "tuple"]) = H1 at s1 hx1 ⊢
  refine ⟨_, rfl, pa, _, rfl, SqX.of hx1, fun J G wk hGG => ?_⟩
  refine for_it wk (fun k σ G4 => ∃ (j : Nat) (s : Wr) (v3 v4 : Option V), σ = [some (.ref l), some (.ref pa), some (.int (j : Int)), v3, v4] ∧ Same H G4 ∧ wr.subs[j]? = some s ∧ j ≤ i ∧ i - j < s.sg ∧ (wr.path i).drop k = s.path (i - j)) ?_ ?_ ?_ ?_
  · exact ⟨0, wr, none, none, rfl, s1, Wr.subs_zero wr, Nat.zero_le _, hi, rfl⟩
  · rintro k σ G4 _ ⟨j, s, v3, v4, rfl, s4, _⟩
    exact hGG G4 (stays hx s1 s4)
  · rintro k x σ G4 G5 hk ⟨j, s, v3, v4, rfl, s4, hs, hj, hm, hp⟩ ⟨rfl, hx2⟩
    rw [List.getElem?_map] at hx2
    obtain ⟨st, hst, rfl⟩ := Option.map_eq_some_iff.mp hx2
    obtain ⟨lk, ek⟩ := List.getElem?_eq_some_iff.mp hst
    rw [List.drop_eq_getElem_cons lk, ek] at hp
    have pos : 0 < i - j := by
      rcases Nat.eq_zero_or_pos (i - j) with z | z
      · rw [z, Wr.path_zero] at hp
        cases hp
      · exact z
    obtain ⟨st', d', s', hk1, hs1, hd1, hm1, e1⟩ := Wr.down pos hm
    rw [e1] at hp
    injection hp with e2 hp
    subst e2
    have lst := lt_get hk1
    obtain ⟨bj, hbj⟩ : ∃ bj, bs[j]? = some bj := get_lt (by rw [hbl]; exact Wr.subs_lt hs)
    have hbj2 := s4 _ _ (hbt j s bj hs hbj)
    have klen : (kidV j s).length = s.kids.length := List.length_map _
    have kat : (kidV j s)[st]? = some (.int ((j + d' : Nat) : Int)) := by
      unfold kidV
      rw [List.getElem?_map, hk1]
      rfl
    refine ⟨_, rfl, l, C, dx, _, _, rfl, s4 _ _ hl, Z.cl, Z.nB, lay_below g e b a d, _, rfl, b, _, _, .ref bj, rfl, rfl, SqL.of (s4 _ _ hb), atI_nat (j := j) (by rw [List.getElem?_map, hbj]; rfl), ?_⟩
    refine ⟨_, rfl, _, rfl, bj, _, rfl, .inl (SqL.of hbj2), _, _, rfl, rfl, _, _, _, "int", rfl, HasTy.int _, .inr ⟨0, rfl⟩, .inr ⟨_, rfl⟩, _, rfl, ?_⟩
    have within : withinV (.int ((st : Nat) : Int)) (.int 0) (.int (((kidV j s).length : Nat) - 1)) = true := by
      show (decide ((0 : Int) ≤ (st : Int)) && decide ((st : Int) ≤ ((kidV j s).length : Nat) - 1)) = true
      rw [klen, decide_eq_true (by omega), decide_eq_true (by omega)]
      rfl
    rw [within]
    refine iteF ?_
    refine ⟨_, rfl, _, rfl, bj, _, _, _, rfl, rfl, SqL.of hbj2, atI_nat (j := st) kat, ?_⟩
    refine ⟨j + d', s', _, _, rfl, s4, ?_, by omega, by omega, ?_⟩
    · have f := (Wr.pths_kid (e := []) hk1).1
      rw [Wr.subs_at hs d' f]
      exact hs1
    · rw [hp, show i - (j + d') = i - j - d' by omega]
  · rintro σ G4 ⟨j, s, v3, v4, rfl, s4, hs, hj, hm, hp⟩
    rw [List.length_map, List.drop_length] at hp
    have ej : i = j := by
      rcases Nat.eq_zero_or_pos (i - j) with z | z
      · omega
      · obtain ⟨st, d', s', _, _, _, _, e⟩ := Wr.down z hm
        rw [e] at hp
        cases hp
    subst ej
    exact ⟨_, rfl, q G4 s4⟩
end
end TF07
/-! new names; which "of"s get them -/
namespace TG
open PySem PySem.Spec L2
open PyProof.Rows hiding St
def strN (k : Nat) : Str := Str.ofString (toString ((k : Nat) : Int))
def letN (n : Nat) : Str := ⟨#[97 + n % 26]⟩
def nmN (n : Nat) : Str := if n / 26 = 0 then letN n else letN n ++ strN (n / 26 - 1)
def dgs (l : List Nat) : Bool := l.all fun c => decide (48 ≤ c ∧ c ≤ 57)
theorem strN_ok : ∀ k, k < 400 → (dgs (strN k).cps.toList && decide (1 ≤ (strN k).cps.toList.length) && decide ((strN k).cps.toList.length ≤ 3)) = true := by decide +kernel
theorem strN_inj {m n : Nat} (hm : m < 10 ^ 9) (hn : n < 10 ^ 9) (h : strN m = strN n) : m = n := by
  have h1 := PySem.W.KIN.num_reads (n := (m : Int)) (by omega) (by omega)
  have h2 := PySem.W.KIN.num_reads (n := (n : Int)) (by omega) (by omega)
  unfold strN at h
  rw [h, h2] at h1
  have := Option.some.inj h1
  omega
theorem str_ext {a b : Str} (h : a.cps.toList = b.cps.toList) : a = b := by
  cases a; cases b
  congr 1
  exact Array.toList_inj.mp h
theorem app_list (a b : Str) : (a ++ b).cps.toList = a.cps.toList ++ b.cps.toList := by
  show (a.cps ++ b.cps).toList = _
  exact Array.toList_append
/-- its signs: a letter, then digits -/
theorem nmN_list {n : Nat} (hn : n < 10000) : ∃ ds, (nmN n).cps.toList = (97 + n % 26) :: ds ∧ dgs ds = true ∧ ds.length ≤ 3 ∧ (n / 26 = 0 → ds = []) ∧ (n / 26 ≠ 0 → ds = (strN (n / 26 - 1)).cps.toList ∧ 1 ≤ ds.length) := by
  unfold nmN
  by_cases c : n / 26 = 0
  · rw [if_pos c]
    exact ⟨[], rfl, rfl, by decide, fun _ => rfl, fun z => absurd c z⟩
  · rw [if_neg c, app_list]
    have h := strN_ok (n / 26 - 1) (by omega)
    simp only [Bool.and_eq_true, decide_eq_true_eq] at h
    exact ⟨(strN (n / 26 - 1)).cps.toList, rfl, h.1.1, h.2, fun z => absurd z c, fun _ => ⟨rfl, h.1.2⟩⟩
theorem nmN_inj {m n : Nat} (hm : m < 10000) (hn : n < 10000) (h : nmN m = nmN n) : m = n := by
  obtain ⟨d1, e1, _, _, a1, b1⟩ := nmN_list hm
  obtain ⟨d2, e2, _, _, a2, b2⟩ := nmN_list hn
  rw [h, e2] at e1
  injection e1 with z1 z2
  by_cases c1 : m / 26 = 0
  · by_cases c2 : n / 26 = 0
    · omega
    · rw [z2, a1 c1] at b2
      have := (b2 c2).2
      exact absurd this (by decide)
  · by_cases c2 : n / 26 = 0
    · rw [← z2, a2 c2] at b1
      have := (b1 c1).2
      exact absurd this (by decide)
    · have e : strN (m / 26 - 1) = strN (n / 26 - 1) := str_ext (by rw [← (b1 c1).1, ← (b2 c2).1, z2])
      have := strN_inj (by omega) (by omega) e
      omega
theorem okN_let {z : Str} {c : Nat} {ds : List Nat} (h : z.cps.toList = c :: ds) (h1 : 97 ≤ c ∧ c ≤ 122) (h2 : dgs ds = true) (h3 : ds.length ≤ 3) : okN z = true := by
  have hl : z.length = ds.length + 1 := by
    show z.cps.size = _
    rw [← Array.length_toList, h]
    rfl
  have n1 : ∀ {y : Str} {a b : Nat}, y.cps.toList = [a, b] → 57 < b → z ≠ y := by
    rintro y a b hy hb rfl
    rw [h] at hy
    cases hy
    have := List.all_eq_true.mp h2 b List.mem_cons_self
    have := of_decide_eq_true this
    omega
  unfold okN
  rw [h]
  simp only [Bool.and_eq_true, decide_eq_true_eq]
  refine ⟨⟨⟨n1 (y := "of") (a := 111) (b := 102) (by decide +kernel) (by decide), n1 (y := "to") (a := 116) (b := 111) (by decide +kernel) (by decide)⟩, by omega, by omega⟩, h1, ?_⟩
  refine List.all_eq_true.mpr fun x hx => ?_
  rw [Bool.or_eq_true]
  exact .inr (List.all_eq_true.mp h2 x hx)
theorem nmN_ok {n : Nat} (hn : n < 10000) : okN (nmN n) = true := by
  obtain ⟨ds, h, h2, h3, _⟩ := nmN_list hn
  exact okN_let h (by omega) h2 h3
/-- unlike ones among others are no more than these -/
theorem nodup_le {α : Type} [DecidableEq α] : ∀ {l m : List α}, l.Nodup → (∀ x ∈ l, x ∈ m) → l.length ≤ m.length
  | [], m, _, _ => Nat.zero_le _
  | x :: l, m, h, k => by
    have hx : x ∈ m := k x List.mem_cons_self
    have hn := List.nodup_cons.mp h
    have ih := nodup_le (l := l) (m := m.erase x) hn.2 fun y hy => by
      refine (List.mem_erase_of_ne (fun e => hn.1 (by rw [← e]; exact hy))).mpr (k y (List.mem_cons_of_mem _ hy))
    rw [List.length_erase_of_mem hx] at ih
    have : 1 ≤ m.length := List.length_pos_of_mem hx
    show l.length + 1 ≤ m.length
    omega
theorem nodup_on {α β : Type} {f : α → β} : ∀ {l : List α}, (∀ x ∈ l, ∀ y ∈ l, f x = f y → x = y) → l.Nodup → (l.map f).Nodup
  | [], _, _ => List.nodup_nil
  | x :: l, h, n => by
    have n2 := List.nodup_cons.mp n
    refine List.nodup_cons.mpr ⟨fun hm => ?_, nodup_on (fun a ha b hb => h a (List.mem_cons_of_mem _ ha) b (List.mem_cons_of_mem _ hb)) n2.2⟩
    obtain ⟨y, hy, e⟩ := List.mem_map.mp hm
    exact n2.1 (by rw [h x List.mem_cons_self y (List.mem_cons_of_mem _ hy) e.symm]; exact hy)
/-- the new ones among the first so many -/
def nwL (ns : List (Option Str)) (k : Nat) : List Str := ((List.range k).filter fun n => !decide (some (nmN n) ∈ ns)).map nmN
theorem nwL_succ (ns : List (Option Str)) (k : Nat) : nwL ns (k + 1) = nwL ns k ++ if some (nmN k) ∈ ns then [] else [nmN k] := by
  unfold nwL
  rw [List.range_succ, List.filter_append, List.map_append]
  congr 1
  by_cases c : some (nmN k) ∈ ns
  · rw [if_pos c, List.filter_cons_of_neg (by simp [c])]
    rfl
  · rw [if_neg c, List.filter_cons_of_pos (by simp [c])]
    rfl
theorem nwL_nodup {ns : List (Option Str)} {k : Nat} (hk : k ≤ 10000) : (nwL ns k).Nodup := by
  unfold nwL
  refine nodup_on ?_ (List.nodup_range.filter _)
  intro x hx y hy e
  exact nmN_inj (Nat.lt_of_lt_of_le (List.mem_range.mp (List.mem_filter.mp hx).1) hk) (Nat.lt_of_lt_of_le (List.mem_range.mp (List.mem_filter.mp hy).1) hk) e
theorem nwL_mem {ns : List (Option Str)} {k : Nat} (hk : k ≤ 10000) : ∀ z ∈ nwL ns k, some z ∉ ns ∧ okN z = true := by
  intro z hz
  obtain ⟨n, hn, rfl⟩ := List.mem_map.mp hz
  obtain ⟨h1, h2⟩ := List.mem_filter.mp hn
  refine ⟨by simpa using h2, nmN_ok (Nat.lt_of_lt_of_le (List.mem_range.mp h1) hk)⟩
theorem nwL_len {ns : List (Option Str)} {k : Nat} (hk : k ≤ 10000) : k ≤ (nwL ns k).length + ns.length := by
  have h1 : ((List.range k).filter fun n => decide (some (nmN n) ∈ ns)).length ≤ ns.length := by
    rw [← List.length_map (f := fun n => some (nmN n))]
    refine nodup_le (nodup_on ?_ (List.nodup_range.filter _)) ?_
    · intro x hx y hy e
      exact nmN_inj (Nat.lt_of_lt_of_le (List.mem_range.mp (List.mem_filter.mp hx).1) hk) (Nat.lt_of_lt_of_le (List.mem_range.mp (List.mem_filter.mp hy).1) hk) (Option.some.inj e)
    · intro x hx
      obtain ⟨n, hn, rfl⟩ := List.mem_map.mp hx
      exact of_decide_eq_true (List.mem_filter.mp hn).2
  have h2 : ∀ (p : Nat → Bool) (l : List Nat), l.length = (l.filter p).length + (l.filter fun n => !p n).length := by
    intro p l
    induction l with
    | nil => rfl
    | cons x l ih =>
      cases c : p x with
      | true =>
        rw [List.filter_cons_of_pos c, List.filter_cons_of_neg (by simp [c])]
        show l.length + 1 = _
        rw [List.length_cons]
        omega
      | false =>
        rw [List.filter_cons_of_neg (by simp [c]), List.filter_cons_of_pos (by simp [c])]
        show l.length + 1 = _
        rw [List.length_cons]
        omega
  have h3 := h2 (fun n => decide (some (nmN n) ∈ ns)) (List.range k)
  rw [List.length_range] at h3
  unfold nwL
  rw [List.length_map]
  omega
theorem nwL_pre (ns : List (Option Str)) {n N : Nat} (h : n ≤ N) : ∃ r, nwL ns N = nwL ns n ++ r := by
  induction h with
  | refl => exact ⟨[], (List.append_nil _).symm⟩
  | step _ ih =>
    obtain ⟨r, e⟩ := ih
    exact ⟨_, by rw [nwL_succ, e, List.append_assoc]⟩
theorem nwL_take (ns : List (Option Str)) {n N : Nat} (h : n ≤ N) : (nwL ns N).take (nwL ns n).length = nwL ns n := by
  obtain ⟨r, e⟩ := nwL_pre ns h
  rw [e, List.take_left]
def spNew (P : Program) (w : World) : Sp := fun vs H Q _ => ∃ (c : Nat) (D : Addr) (ns : List (Option Str)), vs = [.int (c : Int), .ref D] ∧ NAt P w H D ns ∧ c ≤ 2000 ∧ ns.length ≤ 4200 ∧
  ∀ (a : Addr) (l : List Str) (H' : Hp), Same H H' → H' a = some (.lst (l.map V.str)) → l.length = c → l.Nodup → (∀ z ∈ l, some z ∉ ns ∧ okN z = true) → l = (nwL ns (c + ns.length)).take c → Q (.ref a) H'
theorem NAt.same {P : Program} {w : World} {H H' : Hp} {D : Addr} {ns : List (Option Str)} (h : NAt P w H D ns) (s : Same H H') : NAt P w H' D ns := h.imp (s _ _) fun h => ⟨h.1, s _ _ h.2⟩
end TG
/-! what is put in: which "of"s are told anew -/
namespace TG
open PySem PySem.Spec L2
open PyProof.Rows hiding St
namespace Wr
theorem frL_ex {z : Str} {b : Wr} {o : Nat} {e : List (Str × Nat)} (h : z ∈ b.frL (e.map (·.1))) : ∃ (j : Nat) (l : List (Str × Nat)), b.subs[j]? = some (nm z) ∧ (b.envs o e)[j]? = some l ∧ find z l = none := by
  rw [← free_zip b o e] at h
  obtain ⟨p, hp, e1⟩ := List.mem_filterMap.mp h
  obtain ⟨j, hj⟩ := List.getElem?_of_mem hp
  obtain ⟨h1, h2⟩ := List.getElem?_zip_eq_some.mp hj
  obtain ⟨s, l⟩ := p
  cases s with
  | nm y =>
    have e1 : (if find y l = none then some y else none) = some z := e1
    by_cases c : find y l = none
    · rw [if_pos c] at e1
      cases e1
      exact ⟨j, l, h1, h2, c⟩
    · rw [if_neg c] at e1; cases e1
  | of _ _ => cases e1
  | to _ _ => cases e1
theorem envs_suf : ∀ {b : Wr} {o j : Nat} {e l : List (Str × Nat)}, (b.envs o e)[j]? = some l → ∃ pre, l = pre ++ e
  | nm _, o, 0, e, l, h => by cases h; exact ⟨[], rfl⟩
  | nm _, o, j + 1, e, l, h => nomatch h
  | of x b, o, 0, e, l, h => by cases h; exact ⟨[], rfl⟩
  | of x b, o, j + 1, e, l, h => by
    obtain ⟨pre, q⟩ := envs_suf (b := b) (show (b.envs (o + 1) ((x, o) :: e))[j]? = some l from h)
    exact ⟨pre ++ [(x, o)], by rw [q, List.append_assoc]; rfl⟩
  | to a b, o, 0, e, l, h => by cases h; exact ⟨[], rfl⟩
  | to a b, o, j + 1, e, l, h => by
    have h : (a.envs (o + 1) e ++ b.envs (o + 1 + a.sg) e)[j]? = some l := h
    by_cases c : j < (a.envs (o + 1) e).length
    · rw [List.getElem?_append_left c] at h
      exact envs_suf (b := a) h
    · rw [List.getElem?_append_right (by omega)] at h
      exact envs_suf (b := b) h
/-- an "of" in whose body the name is free stands around one of its signs -/
theorem gone_around {w b : Wr} {x z : Str} {i : Nat} (hs : w.subs[i]? = some (of x b)) (h : z ∈ b.frL (x :: (w.env i).map (·.1))) : ∃ g, g ∈ w.frIx ∧ w.nmAt g = z ∧ (x, i) ∈ w.env g := by
  have hb := kid_of hs
  obtain ⟨e, he⟩ := envs_at (o := 0) (e0 := []) hb
  have e0 : e = (x, i) :: w.env i := by
    have h1 := he 0 b.sg_pos
    rw [Nat.add_zero, Nat.zero_add, envs_zero] at h1
    have h2 := env_eq (w := w) (i := i + 1) (subs_lt hb)
    rw [h1, env_of hs] at h2
    exact Option.some.inj h2
  subst e0
  obtain ⟨j, l, hj, hl, hf⟩ := frL_ex (o := i + 1) (e := (x, i) :: w.env i) h
  have hjl := subs_lt hj
  have hw : w.subs[i + 1 + j]? = some (nm z) := (subs_at hb j hjl).trans hj
  have hwe : w.env (i + 1 + j) = l := by
    have h1 := he j hjl
    rw [Nat.zero_add, hl] at h1
    have h2 := env_eq (subs_lt hw)
    rw [h1] at h2
    exact (Option.some.inj h2).symm
  refine ⟨i + 1 + j, ?_, ?_, ?_⟩
  · rw [frIx_eq]
    refine List.mem_filter.mpr ⟨List.mem_range.mpr (subs_lt hw), ?_⟩
    unfold frP
    rw [hw]
    exact decide_eq_true (by rw [hwe]; exact hf)
  · unfold nmAt
    rw [hw]
  · rw [hwe]
    obtain ⟨pre, q⟩ := envs_suf hl
    rw [q]
    exact List.mem_append_right _ List.mem_cons_self
/-- the second of a sign's pair, as a name or none -/
def nvO : Wr → Option Str
  | nm z => some z
  | of x _ => some x
  | to _ _ => none
theorem nvO_v (s : Wr) : nvV s = optS s.nvO := by cases s <;> rfl
theorem nms_subs : ∀ {w : Wr} {z : Str}, z ∈ w.nms → ∃ s ∈ w.subs, s.nvO = some z
  | nm y, z, h => ⟨nm y, List.mem_singleton_self _, congrArg some (List.mem_singleton.mp h).symm⟩
  | of x b, z, h => by
    rcases List.mem_cons.mp h with rfl | h
    · exact ⟨_, List.mem_cons_self, rfl⟩
    · obtain ⟨s, hs, e⟩ := nms_subs h
      exact ⟨s, List.mem_cons_of_mem _ hs, e⟩
  | to a b, z, h => by
    rcases List.mem_append.mp h with h | h
    · obtain ⟨s, hs, e⟩ := nms_subs h
      exact ⟨s, List.mem_cons_of_mem _ (List.mem_append_left _ hs), e⟩
    · obtain ⟨s, hs, e⟩ := nms_subs h
      exact ⟨s, List.mem_cons_of_mem _ (List.mem_append_right _ hs), e⟩
theorem env_nodup {w : Wr} : ∀ {i : Nat}, i < w.sg → ((w.env i).map (·.2)).Nodup := by
  intro i
  induction i using Nat.strongRecOn with
  | _ i ih =>
    intro hi
    by_cases h0 : i = 0
    · subst h0
      rw [env_zero]
      exact List.nodup_nil
    obtain ⟨j, s, k, hj, hs, hk, rfl⟩ := has_par (w := w) (i := i) (by omega) hi
    have c := ih j hj (subs_lt hs)
    cases s with
    | nm z => exact absurd hk List.not_mem_nil
    | of x b =>
      rw [List.mem_singleton.mp hk, env_of hs]
      refine List.nodup_cons.mpr ⟨fun hm => ?_, c⟩
      obtain ⟨p, hp, ep⟩ := List.mem_map.mp hm
      have h1 := env_lt w (subs_lt hs) p hp
      have h2 : p.2 = j := ep
      omega
    | to a b =>
      rcases List.mem_cons.mp hk with rfl | hk
      · rw [env_one hs]; exact c
      · rw [List.mem_singleton.mp hk, ← Nat.add_assoc, env_two hs]; exact c
/-- where those around stand -/
def ix (w : Wr) (g : Nat) : List Nat := (w.env g).map (·.2)
/-- with each its own are there -/
def Closed (w : Wr) (l : List Nat) : Prop := ∀ j ∈ l, (∃ x b, w.subs[j]? = some (of x b)) ∧ ∀ k ∈ w.ix j, k ∈ l
theorem closed_app {w : Wr} {l : List Nat} (h : Closed w l) {e : List (Str × Nat)} (c : Chain w e) : Closed w (l ++ e.map (·.2)) := by
  intro j hj
  rcases List.mem_append.mp hj with hj | hj
  · exact ⟨(h j hj).1, fun k hk => List.mem_append_left _ ((h j hj).2 k hk)⟩
  · have key : ∀ {e : List (Str × Nat)}, Chain w e → ∀ j ∈ e.map (·.2), (∃ x b, w.subs[j]? = some (of x b)) ∧ ∀ k ∈ w.ix j, k ∈ e.map (·.2) := by
      intro e
      induction e with
      | nil => intro _ j hj; exact absurd hj List.not_mem_nil
      | cons p e ih =>
        obtain ⟨x, i⟩ := p
        rintro ⟨⟨b, hb⟩, he, hc⟩ j hj
        rcases List.mem_cons.mp hj with hj | hj
        · have hj : j = i := hj
          subst hj
          refine ⟨⟨x, b, hb⟩, fun k hk => ?_⟩
          unfold ix at hk
          rw [he] at hk
          exact List.mem_cons_of_mem _ hk
        · exact ⟨(ih hc j hj).1, fun k hk => List.mem_cons_of_mem _ ((ih hc j hj).2 k hk)⟩
    exact ⟨(key c j hj).1, fun k hk => List.mem_append_right _ ((key c j hj).2 k hk)⟩
end Wr
def keysB (l : List Nat) : List (Key × V) := l.map fun (i : Nat) => (Sum.inl (i : Int), V.bl true)
theorem keysB_len (l : List Nat) : (keysB l).length = l.length := List.length_map _
theorem keysB_val (l : List Nat) (i : Nat) : (valV (keysB l) (Sum.inl (i : Int) : Key)).isSome = decide (i ∈ l) := by
  unfold valV keysB
  rw [Option.isSome_map, Bool.eq_iff_iff, decide_eq_true_eq, List.find?_isSome]
  constructor
  · rintro ⟨p, hp, e⟩
    obtain ⟨j, hj, rfl⟩ := List.mem_map.mp hp
    have e : (Sum.inl (j : Int) : Key) = Sum.inl (i : Int) := of_decide_eq_true e
    have e2 := Sum.inl.inj e
    have : j = i := by omega
    exact this ▸ hj
  · intro h
    exact ⟨_, List.mem_map.mpr ⟨i, h, rfl⟩, decide_eq_true rfl⟩
theorem keysB_put {l : List Nat} {i : Nat} (h : i ∉ l) : putK (keysB l) (Sum.inl (i : Int) : Key) (.bl true) = keysB (l ++ [i]) := by
  have e : valV (keysB l) (Sum.inl (i : Int) : Key) = none := by
    have := keysB_val l i
    rw [decide_eq_false h] at this
    exact Option.isSome_eq_false_iff.mp this |> Option.isNone_iff_eq_none.mp
  rw [putK_new _ e]
  unfold keysB
  rw [List.map_append]
  rfl
theorem keysB_put2 {l : List Nat} {i : Nat} (h : i ∈ l) : putK (keysB l) (Sum.inl (i : Int) : Key) (.bl true) = keysB l := by
  unfold putK keysB
  have hm : ((l.map fun (i : Nat) => ((Sum.inl (i : Int) : Key), V.bl true)).any fun kv => decide (kv.1 = Sum.inl (i : Int))) = true := List.any_eq_true.mpr ⟨(Sum.inl (i : Int), V.bl true), List.mem_map.mpr ⟨i, h, rfl⟩, decide_eq_true rfl⟩
  rw [if_pos hm, List.map_map]
  refine List.map_congr_left fun y _ => ?_
  show (if (Sum.inl (y : Int) : Key) = Sum.inl (i : Int) then _ else _) = _
  by_cases d : (Sum.inl (y : Int) : Key) = Sum.inl (i : Int)
  · rw [if_pos d]
  · rw [if_neg d]
theorem keysT_val (l : List Str) (z : Str) : (valV (keysT l) (Sum.inr z : Key)).isSome = decide (z ∈ l) := by
  unfold valV keysT
  rw [Option.isSome_map, Bool.eq_iff_iff, decide_eq_true_eq, List.find?_isSome]
  constructor
  · rintro ⟨p, hp, e⟩
    obtain ⟨j, hj, rfl⟩ := List.mem_map.mp hp
    have e : (Sum.inr j : Key) = Sum.inr z := of_decide_eq_true e
    exact Sum.inr.inj e ▸ hj
  · intro h
    exact ⟨_, List.mem_map.mpr ⟨z, h, rfl⟩, decide_eq_true rfl⟩
theorem mem_ins {l : List Str} : ∀ {f : List Str} {z : Str}, z ∈ l.foldl Wr.ins f ↔ z ∈ f ∨ z ∈ l := by
  induction l with
  | nil => intro f z; simp
  | cons x l ih =>
    intro f z
    show z ∈ l.foldl Wr.ins (Wr.ins f x) ↔ _
    rw [ih]
    unfold Wr.ins
    by_cases c : x ∈ f
    · rw [if_pos c, List.mem_cons]
      constructor
      · rintro (h | h)
        · exact .inl h
        · exact .inr (.inr h)
      · rintro (h | h | h)
        · exact .inl h
        · exact .inl (h ▸ c)
        · exact .inr h
    · rw [if_neg c, List.mem_append, List.mem_singleton, List.mem_cons, or_assoc]
theorem mem_insN {l : List (Option Str)} : ∀ {f : List (Option Str)} {z : Option Str}, z ∈ l.foldl insN f ↔ z ∈ f ∨ z ∈ l := by
  induction l with
  | nil => intro f z; simp
  | cons x l ih =>
    intro f z
    show z ∈ l.foldl insN (insN f x) ↔ _
    rw [ih]
    unfold insN
    by_cases c : x ∈ f
    · rw [if_pos c, List.mem_cons]
      constructor
      · rintro (h | h)
        · exact .inl h
        · exact .inr (.inr h)
      · rintro (h | h | h)
        · exact .inl h
        · exact .inl (h ▸ c)
        · exact .inr h
    · rw [if_neg c, List.mem_append, List.mem_singleton, List.mem_cons, or_assoc]
theorem insN_len (l f : List (Option Str)) : (l.foldl insN f).length ≤ f.length + l.length := by
  induction l generalizing f with
  | nil => exact Nat.le_refl _
  | cons z l ih =>
    have h1 := ih (insN f z)
    have h2 : (insN f z).length ≤ f.length + 1 := by
      unfold insN
      split
      · exact Nat.le_succ _
      · rw [List.length_append]; exact Nat.le_refl _
    show (l.foldl insN (insN f z)).length ≤ f.length + (l.length + 1)
    omega
/-- pairs of an "of" and its new name, as a dict -/
def rhoD (ps : List (Nat × Str)) : List (Key × V) := ps.map fun (p : Nat × Str) => (Sum.inl (p.1 : Int), V.str p.2)
def rho (ps : List (Nat × Str)) (i : Nat) : Option Str := ps.lookup i
theorem rhoD_val (ps : List (Nat × Str)) (i : Nat) : valV (rhoD ps) (Sum.inl (i : Int) : Key) = (rho ps i).map V.str := by
  induction ps with
  | nil => rfl
  | cons p ps ih =>
    obtain ⟨j, y⟩ := p
    show valV ((Sum.inl (j : Int), V.str y) :: rhoD ps) _ = (((j, y) :: ps).lookup i).map V.str
    by_cases c : j = i
    · subst c
      rw [valV_pos rfl, List.lookup_cons_self]
      rfl
    · rw [valV_neg (fun e => c (by have := Sum.inl.inj e; omega)), ih]
      show (rho ps i).map V.str = (match i == j with | true => some y | false => ps.lookup i).map V.str
      rw [show (i == j) = false by simpa using fun e => c e.symm]
      rfl
namespace Wr
/-- which "of"s are told anew, and how: a function of the two and of what goes -/
def stepA (w : Wr) (l : List Nat) (g : Nat) : List Nat := l ++ (w.ix g).takeWhile fun i => decide (i ∉ l)
def asL (w : Wr) (gs : List Nat) : List Nat := gs.foldl (stepA w) []
def catL (w a : Wr) (gs : List Nat) : List Nat := (asL w gs).filter fun i => decide (w.nmAt i ∈ a.fr)
def usedL (w a : Wr) : List (Option Str) := ((w.subs ++ a.subs).map nvO).foldl insN []
def catPs (w a : Wr) (gs : List Nat) : List (Nat × Str) := (catL w a gs).zip ((nwL (usedL w a) ((catL w a gs).length + (usedL w a).length)).take (catL w a gs).length)
end Wr
/-- what names_for_catching promises -/
def spCatch (C : Addr) : Sp := fun vs H Q _ => ∃ (l gd t : Addr) (w a : Wr) (gs : List Nat), vs = [.ref l, .ref gd, .ref t] ∧ LayAt C H l w ∧ LayAt C H t a ∧ w.sg ≤ 2000 ∧ a.sg ≤ 2000 ∧ w.all okN = true ∧ a.all okN = true ∧ H gd = some (.dK (keysB gs)) ∧ gs.length ≤ 2000 ∧ (∀ g ∈ gs, g < w.sg) ∧
  ∀ (d : Addr) (ps : List (Nat × Str)) (H' : Hp), Same H H' → H' d = some (.dK (rhoD ps)) → ps.length ≤ 2000 → ps = Wr.catPs w a gs → (gs = [] → ps = []) → Wr.New (rho ps) (w.nms ++ a.nms) → (∀ p ∈ ps, okN p.2 = true) → (∀ g ∈ gs, ∀ x i, (x, i) ∈ w.env g → Wr.nu (rho ps) i x ∉ a.fr) → Q (.ref d) H'
end TG
/-! what put builds: a row of pairs, and which writing it is -/
namespace TG
open PySem PySem.Spec L2
open PyProof.Rows hiding St
namespace Wr
/-- as ren, a value in the place of what is put in -/
def renT (ρ : Nat → Option Str) (nam : Str) (pv : V) : Wr → Nat → List (Str × Nat) → Tr
  | nm z, _, e => .lf (match find z e with
    | none => if z = nam then pv else .str z
    | some j => .str (nu ρ j z))
  | of x b, o, e => .of (nu ρ o x) (renT ρ nam pv b (o + 1) ((x, o) :: e))
  | to a b, o, e => .to (renT ρ nam pv a (o + 1) e) (renT ρ nam pv b (o + 1 + a.sg) e)
/-- one pair of it -/
def entR (ρ : Nat → Option Str) (nam : Str) (pv : V) : Wr → List (Str × Nat) → Nat → V × V
  | nm z, l, _ => (.str "name", match find z l with
    | none => if z = nam then pv else .str z
    | some j => .str (nu ρ j z))
  | of x _, _, k => (.str "of", .str (nu ρ k x))
  | to _ _, _, _ => (.str "to", .non)
theorem renT_sz (ρ : Nat → Option Str) (nam : Str) (pv : V) : ∀ (w : Wr) (o : Nat) (e : List (Str × Nat)), (renT ρ nam pv w o e).sz = w.sg
  | nm _, _, _ => rfl
  | of x b, o, e => congrArg (· + 1) (renT_sz ρ nam pv b (o + 1) ((x, o) :: e))
  | to a b, o, e => by
    show (renT ρ nam pv a _ e).sz + (renT ρ nam pv b _ e).sz + 1 = _
    rw [renT_sz ρ nam pv a, renT_sz ρ nam pv b]
    rfl
theorem renT_ents (ρ : Nat → Option Str) (nam : Str) (pv : V) : ∀ (w : Wr) (o : Nat) (e : List (Str × Nat)), (renT ρ nam pv w o e).ents = ((w.subs.zip (w.envs o e)).zipIdx o).map fun p => entR ρ nam pv p.1.1 p.1.2 p.2
  | nm _, _, _ => rfl
  | of x b, o, e => by
    show _ :: (renT ρ nam pv b (o + 1) ((x, o) :: e)).ents = _
    rw [renT_ents ρ nam pv b]
    rfl
  | to a b, o, e => by
    show _ :: ((renT ρ nam pv a (o + 1) e).ents ++ (renT ρ nam pv b (o + 1 + a.sg) e).ents) = _
    rw [renT_ents ρ nam pv a, renT_ents ρ nam pv b, ← List.map_append]
    show _ = List.map _ (((to a b).subs.zip ((to a b).envs o e)).zipIdx o)
    have e1 : ((to a b).subs.zip ((to a b).envs o e)) = (to a b, e) :: ((a.subs.zip (a.envs (o + 1) e)) ++ (b.subs.zip (b.envs (o + 1 + a.sg) e))) := by
      show (_ :: (a.subs ++ b.subs)).zip (e :: (a.envs (o + 1) e ++ b.envs (o + 1 + a.sg) e)) = _
      rw [List.zip_cons_cons, List.zip_append (by rw [subs_len, envs_len])]
    rw [e1, List.zipIdx_cons, List.map_cons, List.zipIdx_append]
    have e2 : (a.subs.zip (a.envs (o + 1) e)).length = a.sg := by rw [List.length_zip, subs_len, envs_len, Nat.min_self]
    rw [e2]
    rfl
theorem renT_at {ρ : Nat → Option Str} {nam : Str} {pv : V} {w s : Wr} {i : Nat} (h : w.subs[i]? = some s) : (renT ρ nam pv w 0 []).ents[i]? = some (entR ρ nam pv s (w.env i) i) := by
  have h2 : (w.subs.zip (w.envs 0 []))[i]? = some (s, w.env i) := List.getElem?_zip_eq_some.mpr ⟨h, env_eq (subs_lt h)⟩
  rw [renT_ents, List.getElem?_map, List.getElem?_zipIdx, h2]
  show some (entR ρ nam pv s (w.env i) (0 + i)) = _
  rw [Nat.zero_add]
theorem renT_tw {ρ : Nat → Option Str} {nam : Str} {pv : V} {t : Wr} {H : Hp} (hp : WA H pv t) : ∀ (w : Wr) (o : Nat) (e : List (Str × Nat)), TW H (renT ρ nam pv w o e) (ren ρ nam t w o e)
  | nm z, o, e => by
    show TW H (.lf (match find z e with | none => if z = nam then pv else .str z | some j => .str (nu ρ j z))) (match find z e with | none => if z = nam then t else nm z | some j => nm (nu ρ j z))
    cases find z e with
    | none =>
      by_cases c : z = nam
      · dsimp only
        rw [if_pos c, if_pos c]
        exact .lf hp
      · dsimp only
        rw [if_neg c, if_neg c]
        exact .lf (.nm z)
    | some j => exact .lf (.nm _)
  | of x b, o, e => .of (renT_tw hp b _ _)
  | to a b, o, e => .to (renT_tw hp a _ _) (renT_tw hp b _ _)
theorem ren_ok {ρ : Nat → Option Str} {nam : Str} {t : Wr} (hr : ∀ j y, ρ j = some y → okN y = true) (ht : t.all okN = true) : ∀ (w : Wr) (o : Nat) (e : List (Str × Nat)), w.all okN = true → (ren ρ nam t w o e).all okN = true := by
  have nuok : ∀ j x, okN x = true → okN (nu ρ j x) = true := by
    intro j x hx
    unfold nu
    cases q : ρ j with
    | none => exact hx
    | some y => exact hr j y q
  intro w
  induction w with
  | nm z =>
    intro o e hw
    have hw : okN z = true := hw
    show (match find z e with | none => if z = nam then t else nm z | some j => nm (nu ρ j z)).all okN = true
    cases find z e with
    | none =>
      dsimp only
      by_cases c : z = nam
      · rw [if_pos c]; exact ht
      · rw [if_neg c]; exact hw
    | some j => exact nuok j z hw
  | of x b ih =>
    intro o e hw
    have hw : (okN x && b.all okN) = true := hw
    rw [Bool.and_eq_true] at hw
    show (okN (nu ρ o x) && (ren ρ nam t b _ _).all okN) = true
    rw [nuok o x hw.1, ih _ _ hw.2]
    rfl
  | to a b i1 i2 =>
    intro o e hw
    have hw : (a.all okN && b.all okN) = true := hw
    rw [Bool.and_eq_true] at hw
    show ((ren ρ nam t a _ _).all okN && (ren ρ nam t b _ _).all okN) = true
    rw [i1 _ _ hw.1, i2 _ _ hw.2]
    rfl
theorem subs_nms : ∀ {w s : Wr} {z : Str}, s ∈ w.subs → s.nvO = some z → z ∈ w.nms
  | nm y, s, z, h, e => by
    rw [List.mem_singleton.mp h] at e
    cases e
    exact List.mem_singleton_self _
  | of x b, s, z, h, e => by
    rcases List.mem_cons.mp h with rfl | h
    · cases e; exact List.mem_cons_self
    · exact List.mem_cons_of_mem _ (subs_nms h e)
  | to a b, s, z, h, e => by
    rcases List.mem_cons.mp h with rfl | h
    · cases e
    · rcases List.mem_append.mp h with h | h
      · exact List.mem_append_left _ (subs_nms h e)
      · exact List.mem_append_right _ (subs_nms h e)
/-- at which signs something is put in -/
def goneL (w : Wr) (nam : Str) : List Nat := w.frIx.filter fun i => decide (w.nmAt i = nam)
theorem gone_nil {w : Wr} {nam : Str} (h : nam ∉ w.nms) : w.goneL nam = [] := by
  unfold goneL
  refine List.filter_eq_nil_iff.mpr fun i hi => ?_
  obtain ⟨z, hz, _, hn⟩ := frIx_nm hi
  intro e
  have e := of_decide_eq_true e
  refine h (e ▸ hn ▸ ?_)
  exact subs_nms (List.mem_of_getElem? hz) rfl
theorem gone_iff {w : Wr} {nam z : Str} {i : Nat} (h : w.subs[i]? = some (nm z)) : i ∈ w.goneL nam ↔ find z (w.env i) = none ∧ z = nam := by
  have hn : w.nmAt i = z := by unfold nmAt; rw [h]
  unfold goneL
  rw [List.mem_filter, hn, decide_eq_true_eq, frIx_eq, List.mem_filter, List.mem_range]
  have hp : frP w i = decide (find z (w.env i) = none) := by unfold frP; rw [h]
  rw [hp, decide_eq_true_eq]
  exact ⟨fun q => ⟨q.1.2, q.2⟩, fun q => ⟨⟨subs_lt h, q.1⟩, q.2⟩⟩
theorem gone_not {w s : Wr} {nam : Str} {i : Nat} (h : w.subs[i]? = some s) (k : ∀ z, s ≠ nm z) : i ∉ w.goneL nam := by
  intro hm
  obtain ⟨z, hz, _⟩ := frIx_nm (List.mem_filter.mp hm).1
  rw [h] at hz
  exact k z (Option.some.inj hz)
/-- counted outwards it is what must be -/
theorem put_cnt {w a : Wr} {nam : Str} {ρ : Nat → Option Str} (N : New ρ (w.nms ++ a.nms)) (hz : w.goneL nam = [] → ρ = fun _ => none) (cover : ∀ g ∈ w.goneL nam, ∀ x i, (x, i) ∈ w.env g → nu ρ i x ∉ a.fr) :
    (ren ρ nam a w 0 []).cnt [] = (w.cnt []).sub nam (a.cnt []) := by
  have h2 : ∀ i x b l, w.subs[i]? = some (of x b) → (w.envs 0 [])[i]? = some l → nam ∈ b.frL (x :: l.map (·.1)) → nu ρ (0 + i) x ∉ a.fr := by
    intro i x b l hs hl hm
    rw [env_eq (subs_lt hs)] at hl
    cases hl
    obtain ⟨g, hg, hn, hx⟩ := gone_around hs hm
    rw [Nat.zero_add]
    exact cover g (List.mem_filter.mpr ⟨hg, decide_eq_true hn⟩) x i hx
  by_cases c : nam ∈ w.nms
  · exact ren_cnt N (List.mem_append_left _ c) w 0 [] (fun z hz => List.mem_append_left _ hz) List.nodup_nil (fun p hp => absurd hp List.not_mem_nil) (fun z _ _ => List.not_mem_nil) h2
  · have e := hz (gone_nil c)
    have N2 : New ρ (nam :: w.nms) := ⟨fun j y h => by (rw [e] at h; cases h), fun j k y h _ => by (rw [e] at h; cases h)⟩
    exact ren_cnt N2 List.mem_cons_self w 0 [] (fun z hz => List.mem_cons_of_mem _ hz) List.nodup_nil (fun p hp => absurd hp List.not_mem_nil) (fun z _ _ => List.not_mem_nil) h2
/-- what put makes: a function of the two writings and the name -/
def putF (w : Wr) (x : Str) (a : Wr) : Wr := ren (rho (catPs w a (w.goneL x))) x a w 0 []
end Wr
/-- as spPut, and which writing it is: the same for equal writings -/
def spPutF (K : PySem.W.Frag) : Sp := fun vs H Q _ => ∃ (v u : V) (x : Str) (d e : PyData) (w a : Wr), vs = [v, .str x, u] ∧ Dp K H v d ∧ Tells d w ∧ w.all okN = true ∧ w.sg ≤ 2000 ∧ okN x = true ∧ Dp K H u e ∧ Tells e a ∧ a.all okN = true ∧ a.sg ≤ 2000 ∧
  ∀ (v' : V) (w' : Wr) (H' : Hp), Same H H' → WA H' v' w' → w'.all okN = true → w'.cnt [] = (w.cnt []).sub x (a.cnt []) → w' = w.putF x a → Q v' H'
theorem putF_put {K : PySem.W.Frag} (vs : List V) (H : Hp) (Q : VK) (E : XK) (h : spPut K vs H Q E) : spPutF K vs H Q E := by
  obtain ⟨v, u, x, d, e, w, a, e1, h1, h2, h3, h4, _, h5, h6, h7, h8, h9, _, _, _, q⟩ := h
  exact ⟨v, u, x, d, e, w, a, e1, h1, h2, h3, h4, h5, h6, h7, h8, h9, fun v' w' H' s hw ok c _ => q v' w' H' s hw ok c⟩
end TG
set_option maxHeartbeats 400000
/-! a part in the place of a part -/
namespace TG
open PySem PySem.Spec L2
open PyProof.Rows hiding St
namespace Wr
/-- with the value pv in the place of what begins at i -/
def putT (pv : V) : Wr → Nat → Tr
  | _, 0 => .lf pv
  | nm z, _ + 1 => .lf (.str z)
  | of x b, i + 1 => .of x (putT pv b i)
  | to a b, i + 1 => if i < a.sg then .to (putT pv a i) b.tr else .to a.tr (putT pv b (i - a.sg))
/-- with the writing t in the place of what begins at i -/
def repl (t : Wr) : Wr → Nat → Wr
  | _, 0 => t
  | nm z, _ + 1 => nm z
  | of x b, i + 1 => of x (repl t b i)
  | to a b, i + 1 => if i < a.sg then to (repl t a i) b else to a (repl t b (i - a.sg))
theorem tr_elen (w : Wr) : w.tr.ents.length = w.sg := by rw [tr_ents, List.length_map, subs_len]
theorem putT_ents {pv : V} : ∀ {w s : Wr} {i : Nat}, w.subs[i]? = some s → (putT pv w i).ents = w.tr.ents.take i ++ (V.str "name", pv) :: w.tr.ents.drop (i + s.sg)
  | w, s, 0, h => by
    rw [subs_zero] at h
    cases h
    have l := tr_elen w
    rw [Nat.zero_add, List.drop_of_length_le (by omega), List.take_zero]
    cases w <;> rfl
  | nm _, s, i + 1, h => nomatch h
  | of x b, s, i + 1, h => by
    have e := putT_ents (pv := pv) (w := b) (s := s) (i := i) h
    rw [show i + 1 + s.sg = (i + s.sg) + 1 by omega]
    show Tr.hd _ :: (putT pv b i).ents = _ :: (b.tr.ents.take i ++ _ :: b.tr.ents.drop (i + s.sg))
    rw [e]
    rfl
  | to a b, s, i + 1, h => by
    have h : (a.subs ++ b.subs)[i]? = some s := h
    have la := tr_elen a
    rw [show i + 1 + s.sg = (i + s.sg) + 1 by omega]
    by_cases c : i < a.sg
    · rw [List.getElem?_append_left (by rw [subs_len]; exact c)] at h
      have e := putT_ents (pv := pv) h
      have f := subs_fit h
      have e0 : putT pv (to a b) (i + 1) = .to (putT pv a i) b.tr := if_pos c
      rw [e0]
      show Tr.hd _ :: ((putT pv a i).ents ++ b.tr.ents) = _ :: ((a.tr.ents ++ b.tr.ents).take i ++ _ :: (a.tr.ents ++ b.tr.ents).drop (i + s.sg))
      rw [e, List.take_append_of_le_length (by omega), List.drop_append_of_le_length (by omega), List.append_assoc]
      rfl
    · rw [List.getElem?_append_right (by rw [subs_len]; omega), subs_len] at h
      have e := putT_ents (pv := pv) h
      have e0 : putT pv (to a b) (i + 1) = .to a.tr (putT pv b (i - a.sg)) := if_neg c
      rw [e0]
      show Tr.hd _ :: (a.tr.ents ++ (putT pv b (i - a.sg)).ents) = _ :: ((a.tr.ents ++ b.tr.ents).take i ++ _ :: (a.tr.ents ++ b.tr.ents).drop (i + s.sg))
      rw [e, List.take_append, List.drop_append, List.take_of_length_le (l := a.tr.ents) (i := i) (by omega), List.drop_of_length_le (l := a.tr.ents) (i := i + s.sg) (by omega), la, List.append_assoc, List.nil_append, show i + s.sg - a.sg = i - a.sg + s.sg by omega]
      rfl
theorem putT_sz {pv : V} {w s : Wr} {i : Nat} (h : w.subs[i]? = some s) : (putT pv w i).sz + s.sg = w.sg + 1 := by
  have e := congrArg List.length (putT_ents (pv := pv) h)
  have f := subs_fit h
  have l := tr_elen w
  rw [Tr.ents_len, List.length_append, List.length_cons, List.length_take, List.length_drop, l] at e
  omega
/-- the tree with the value tells the writing with the part -/
theorem putT_tw {H : Hp} {pv : V} {t : Wr} (hp : WA H pv t) : ∀ (w : Wr) (i : Nat), TW H (putT pv w i) (repl t w i)
  | nm _, 0 => .lf hp
  | of _ _, 0 => .lf hp
  | to _ _, 0 => .lf hp
  | nm z, i + 1 => .lf (.nm z)
  | of x b, i + 1 => .of (putT_tw hp b i)
  | to a b, i + 1 => by
    show TW H (if i < a.sg then .to (putT pv a i) b.tr else .to a.tr (putT pv b (i - a.sg))) (if i < a.sg then to (repl t a i) b else to a (repl t b (i - a.sg)))
    by_cases c : i < a.sg
    · rw [if_pos c, if_pos c]
      exact .to (putT_tw hp a i) (Wr.tr_tw H b)
    · rw [if_neg c, if_neg c]
      exact .to (Wr.tr_tw H a) (putT_tw hp b (i - a.sg))
theorem repl_all {p : Str → Bool} {t : Wr} (ht : t.all p = true) : ∀ {w : Wr} {i : Nat}, w.all p = true → (repl t w i).all p = true
  | w, 0, _ => by cases w <;> exact ht
  | nm z, i + 1, h => h
  | of x b, i + 1, h => by
    obtain ⟨h1, h2⟩ := Bool.and_eq_true_iff.mp (show (p x && b.all p) = true from h)
    show (p x && (repl t b i).all p) = true
    rw [h1, repl_all ht h2]
    rfl
  | to a b, i + 1, h => by
    obtain ⟨h1, h2⟩ := Bool.and_eq_true_iff.mp (show (a.all p && b.all p) = true from h)
    show (if i < a.sg then to (repl t a i) b else to a (repl t b (i - a.sg))).all p = true
    by_cases c : i < a.sg
    · rw [if_pos c]
      show ((repl t a i).all p && b.all p) = true
      rw [repl_all ht h1, h2]
      rfl
    · rw [if_neg c]
      show (a.all p && (repl t b (i - a.sg)).all p) = true
      rw [h1, repl_all ht h2]
      rfl
end Wr
end TG
namespace TF07
open PySem PySem.Spec L2 TG TA
open PyProof.Rows hiding St
abbrev sWB : Stmt := top 27
theorem scWB : FnScope ["layout", "at", "part"] ["layout", "at", "part"] (defScope sWB) := ⟨rfl, rfl, rfl, by decide +kernel, rfl, by decide +kernel, by decide +kernel⟩
def spWB (C : Addr) : Sp := fun vs H Q _ => ∃ (l : Addr) (part : V) (w s t : Wr) (i : Nat), vs = [.ref l, .int (i : Int), part] ∧ LayAt C H l w ∧ w.subs[i]? = some s ∧ w.sg ≤ 2000 ∧ WA H part t ∧
  ∀ (v : V) (H' : Hp), Same H H' → WA H' v (Wr.repl t w i) → Q v H'
theorem pd_take {α β : Type} {R : α → β → Prop} : ∀ {xs : List α} {ys : List β} (n : Nat), Paired R xs ys → Paired R (xs.take n) (ys.take n)
  | _, _, 0, _ => by rw [List.take_zero, List.take_zero]; exact .nil
  | _, _, n + 1, .nil => .nil
  | _, _, n + 1, .cons a t => .cons a (pd_take n t)
theorem pd_drop {α β : Type} {R : α → β → Prop} : ∀ {xs : List α} {ys : List β} (n : Nat), Paired R xs ys → Paired R (xs.drop n) (ys.drop n)
  | _, _, 0, h => h
  | _, _, n + 1, .nil => .nil
  | _, _, n + 1, .cons _ t => pd_drop n t
theorem pd_make {α β : Type} {R : α → β → Prop} : ∀ {xs : List α} {ys : List β}, xs.length = ys.length → (∀ (i : Nat) (x : α) (y : β), xs[i]? = some x → ys[i]? = some y → R x y) → Paired R xs ys
  | [], [], _, _ => .nil
  | [], _ :: _, h, _ => nomatch h
  | _ :: _, [], h, _ => nomatch h
  | x :: xs, y :: ys, h, k => .cons (k 0 x y rfl rfl) (pd_make (Nat.succ.inj h) fun i u v hu hv => k (i + 1) u v hu hv)
theorem pd_get {α β : Type} {R : α → β → Prop} : ∀ {xs : List α} {ys : List β}, Paired R xs ys → xs.length = ys.length ∧ ∀ (i : Nat) (x : α) (y : β), xs[i]? = some x → ys[i]? = some y → R x y
  | _, _, .nil => ⟨rfl, fun i x y h => by simp at h⟩
  | _, _, .cons a t => by
    obtain ⟨l, k⟩ := pd_get t
    refine ⟨congrArg (· + 1) l, fun i x y h1 h2 => ?_⟩
    match i, h1, h2 with
    | 0, h1, h2 => cases h1; cases h2; exact a
    | i + 1, h1, h2 => exact k i x y h1 h2
section
variable {P : Program} {w : World} {K : PySem.W.Frag} {mg : Str → Option Value} {base : Heap} {f f1 f2 f3 : Addr} {fd fd1 fd2 fd3 : FuncData}
theorem ok_wb {C fI : Addr} (F : Fun K "with_built" "with_built" sWB f fd) (T : Bn mg) (W : Lw mg) (Z : LayC K mg C fI) (D_built : Df K mg "built" sBuilt f1 fd1 ["signs"]) (G_built : FnOk P w K mg base CX0 1 f1 fd1 ["signs"] spBuilt) : FnOk P w K mg base CX0 2 f fd ["layout", "at", "part"] (spWB C) := by
  refine F.ok scWB (fun vs H Q E h => ?_) (fun cdv A outer s H vs Q E hr h => ?_)
  · obtain ⟨l, part, wr, s', t, i, rfl, _⟩ := h
    rfl
  obtain ⟨l, part, wr, s', t, i, rfl, ⟨g, e, b, a, d, dx, hl, ⟨ts, hg, hgl, hgt⟩, ⟨es, he, hel, hes⟩, hb, ha, hd⟩, hs, hn, hp, q⟩ := h
  obtain ⟨tNm, gNm⟩ := W.nm_
  refine ⟨_, (pss_one (ps_ret (pe_cd D_built G_built hr (by decide) (pa_cons (pe_op op_cat (pe_op op_cat (pe_slice sl_list (pe_fld (pv 0) (by rfl)) po_none (po_some (pv 1))) (pe_lst (pa_cons (pe_tup (pa_cons (pe_glob (v := .str "name") rfl gNm ⟨_, rfl⟩) (pa_cons (pv 2) pa_nil))) pa_nil))) (pe_slice sl_list (pe_fld (pv 0) (by rfl)) (po_some (pe_ix ix_list (pe_fld (pv 0) (by rfl)) (pv 1) (fun _ _ => rfl))) po_none)) pa_nil)))), ?_⟩
  have fit := Wr.subs_fit hs
  have hin := Wr.subs_lt hs
  refine ⟨_, rfl, l, C, dx, _, _, rfl, hl, Z.cl, Z.nS, lay_signs g e b a d, _, rfl, _, rfl, g, _, rfl, SqL.of hg, fun p1 hp1 => ?_⟩
  have cut1 : cutV (ts.map V.ref) none (some (i : Int)) = (ts.take i).map V.ref := by
    unfold cutV
    rw [HT.sIx_nat, List.length_map, hgl, Nat.min_eq_left (by omega), List.map_take]
    rfl
  rw [cut1]
  have small2 : ∀ m : Nat, m ≤ 5000 → m ≤ sizeLine := fun m hm => by rw [sizeLine_eq]; omega
  have h1 : (L2.upd H p1 (.lst ((ts.take i).map V.ref))) p1 = some (.lst ((ts.take i).map V.ref)) := upd_same
  have s1 := new_same (o := .lst ((ts.take i).map V.ref)) hp1
  generalize L2.upd H p1 (.lst ((ts.take i).map V.ref)) = H1 at h1 s1 ⊢
  refine ⟨_, rfl, (by show 2 ≤ sizeLine; decide), fun n0 hn0 => ⟨(by show 1 ≤ sizeLine; decide), fun p2 hp2 => ?_⟩⟩
  have x2 := (new_same (o := .tup [.str "name", part]) hn0).trans (new_same (o := .lst [.ref n0]) hp2)
  have hn1 : (L2.upd (L2.upd H1 n0 (.tup [.str "name", part])) p2 (.lst [.ref n0])) n0 = some (.tup [.str "name", part]) := new_same hp2 _ _ upd_same
  have h2 : (L2.upd (L2.upd H1 n0 (.tup [.str "name", part])) p2 (.lst [.ref n0])) p2 = some (.lst (([n0] : List Addr).map V.ref)) := upd_same
  have h1 := x2 _ _ h1
  have s2 := s1.trans x2
  generalize L2.upd (L2.upd H1 n0 (.tup [.str "name", part])) p2 (.lst [.ref n0]) = H2 at h1 hn1 h2 s2 ⊢
  refine ⟨p1, p2, _, _, rfl, rfl, h1, h2, by rw [List.length_map, List.length_map, List.length_take]; exact small2 _ (by show _ + 1 ≤ _; omega), fun p3 hp3 => ?_⟩
  have s3 := s2.trans (new_same (o := .lst ((ts.take i).map V.ref ++ ([n0] : List Addr).map V.ref)) hp3)
  have hn1 := new_same (o := .lst ((ts.take i).map V.ref ++ ([n0] : List Addr).map V.ref)) hp3 _ _ hn1
  have h3 : (L2.upd H2 p3 (.lst ((ts.take i).map V.ref ++ ([n0] : List Addr).map V.ref))) p3 = some (.lst ((ts.take i ++ [n0]).map V.ref)) := by rw [upd_same, List.map_append]
  generalize L2.upd H2 p3 (.lst ((ts.take i).map V.ref ++ ([n0] : List Addr).map V.ref)) = H3 at s3 hn1 h3 ⊢
  refine ⟨_, rfl, l, C, dx, _, _, rfl, s3 _ _ hl, Z.cl, Z.nS, lay_signs g e b a d, _, rfl, l, C, dx, _, _, rfl, s3 _ _ hl, Z.cl, Z.nE, lay_ends g e b a d, _, rfl, e, _, _, _, rfl, rfl, SqL.of (s3 _ _ he), atI_nat (hes i s' hs), _, rfl, g, _, rfl, SqL.of (s3 _ _ hg), fun p4 hp4 => ?_⟩
  have cut2 : cutV (ts.map V.ref) (some ((i + s'.sg : Nat) : Int)) none = (ts.drop (i + s'.sg)).map V.ref := by
    unfold cutV
    rw [HT.sIx_nat, List.length_map, hgl, Nat.min_eq_left (by omega)]
    rw [show HT.sIx wr.sg wr.sg none = wr.sg from rfl, List.take_of_length_le (by rw [List.length_drop, List.length_map, hgl]; exact Nat.le_refl _), List.map_drop]
  rw [cut2]
  have x4 := new_same (o := .lst ((ts.drop (i + s'.sg)).map V.ref)) hp4
  have s4 := s3.trans x4
  have h3 := x4 _ _ h3
  have hn1 := x4 _ _ hn1
  have h4 : (L2.upd H3 p4 (.lst ((ts.drop (i + s'.sg)).map V.ref))) p4 = some (.lst ((ts.drop (i + s'.sg)).map V.ref)) := upd_same
  generalize L2.upd H3 p4 (.lst ((ts.drop (i + s'.sg)).map V.ref)) = H4 at s4 h3 hn1 h4 ⊢
  refine ⟨p3, p4, _, _, rfl, rfl, h3, h4, by rw [List.length_map, List.length_map, List.length_append, List.length_take, List.length_drop]; exact small2 _ (by show min i ts.length + 1 + _ ≤ _; omega), fun p5 hp5 => ?_⟩
  have x5 := new_same (o := .lst ((ts.take i ++ [n0]).map V.ref ++ (ts.drop (i + s'.sg)).map V.ref)) hp5
  have s5 := s4.trans x5
  have hn1 := x5 _ _ hn1
  have h5 : (L2.upd H4 p5 (.lst ((ts.take i ++ [n0]).map V.ref ++ (ts.drop (i + s'.sg)).map V.ref))) p5 = some (.lst ((ts.take i ++ (n0 :: ts.drop (i + s'.sg))).map V.ref)) := by
    rw [upd_same, ← List.map_append, List.append_assoc]
    rfl
  generalize L2.upd H4 p5 (.lst ((ts.take i ++ [n0]).map V.ref ++ (ts.drop (i + s'.sg)).map V.ref)) = H5 at s5 hn1 h5 ⊢
  have all : Paired (fun (p : V × V) a => H5 a = some (.tup [p.1, p.2])) wr.tr.ents ts := by
    refine pd_make (by rw [Wr.tr_elen, hgl]) fun j x y hx hy => ?_
    rw [Wr.tr_ents, List.getElem?_map] at hx
    obtain ⟨u, hu, rfl⟩ := Option.map_eq_some_iff.mp hx
    exact s5 _ _ (hgt j u y hu hy)
  have mine : Paired (fun (p : V × V) a => H5 a = some (.tup [p.1, p.2])) (Wr.putT part wr i).ents (ts.take i ++ (n0 :: ts.drop (i + s'.sg))) := by
    rw [Wr.putT_ents hs]
    exact paired_join (pd_take i all) (.cons hn1 (pd_drop (i + s'.sg) all))
  obtain ⟨m1, m2⟩ := pd_get mine
  have z := Wr.putT_sz (pv := part) hs
  have zp := s'.sg_pos
  refine ⟨p5, Wr.putT part wr i, rfl, ⟨_, h5, by rw [← m1, Tr.ents_len], m2⟩, by omega, fun v H' s6 hv => q v H' (s5.trans s6) (hv.wa (Wr.putT_tw (hp.same (s5.trans s6)) wr i))⟩
end
end TF07
namespace TF07
open PySem PySem.Spec L2 TG TA
open PyProof.Rows hiding St
abbrev sPlOf : Stmt := top 32
abbrev sPartAt : Stmt := top 34
abbrev sWith : Stmt := top 35
theorem scPlOf : FnScope ["writing"] ["writing"] (defScope sPlOf) := ⟨rfl, rfl, rfl, by decide +kernel, rfl, by decide +kernel, by decide +kernel⟩
theorem scPartAt : FnScope ["writing", "place", "layout"] ["writing", "place"] (defScope sPartAt) := ⟨rfl, rfl, rfl, by decide +kernel, rfl, by decide +kernel, by decide +kernel⟩
theorem scWith : FnScope ["writing", "place", "part", "layout", "at"] ["writing", "place", "part"] (defScope sWith) := ⟨rfl, rfl, rfl, by decide +kernel, rfl, by decide +kernel, by decide +kernel⟩
def spPlOf (K : PySem.W.Frag) : Sp := fun vs H Q _ => ∃ (v : V) (d : PyData) (w : Wr), vs = [v] ∧ Dp K H v d ∧ Tells d w ∧ w.all okN = true ∧ w.sg ≤ 2000 ∧
  ∀ (t : Addr) (as : List Addr) (H' : Hp), Same H H' → SqT K H' t (as.map V.ref) → TupsN H' as (w.pths []) → Q (.ref t) H'
/-- where a place is told: a tuple or a list -/
def PlaceX (H : Hp) (a : Addr) (ns : List Nat) : Prop := H a = some (.lst (ns.map fun n => V.int ((n : Nat) : Int))) ∨ H a = some (.tup (ns.map fun n => V.int ((n : Nat) : Int)))
theorem PlaceX.same {H H' : Hp} {a : Addr} {ns : List Nat} (h : PlaceX H a ns) (s : Same H H') : PlaceX H' a ns := h.imp (s _ _) (s _ _)
def spPartAt (K : PySem.W.Frag) : Sp := fun vs H Q _ => ∃ (v : V) (pa : Addr) (d : PyData) (w s : Wr) (i : Nat), vs = [v, .ref pa] ∧ Dp K H v d ∧ Tells d w ∧ w.all okN = true ∧ w.sg ≤ 2000 ∧ w.subs[i]? = some s ∧ PlaceX H pa (w.path i) ∧
  ∀ (v' : V) (H' : Hp), Same H H' → WA H' v' s → Q v' H'
def spWith (K : PySem.W.Frag) : Sp := fun vs H Q _ => ∃ (v : V) (pa : Addr) (u : V) (d e : PyData) (w s t : Wr) (i : Nat), vs = [v, .ref pa, u] ∧ Dp K H v d ∧ Tells d w ∧ w.all okN = true ∧ w.sg ≤ 2000 ∧ Dp K H u e ∧ Tells e t ∧ t.all okN = true ∧ t.sg ≤ 2000 ∧
  w.subs[i]? = some s ∧ PlaceX H pa (w.path i) ∧ ∀ (v' : V) (H' : Hp), Same H H' → WA H' v' (Wr.repl t w i) → Q v' H'
section
variable {P : Program} {w : World} {K : PySem.W.Frag} {mg : Str → Option Value} {base : Heap} {f f1 f2 f3 f4 : Addr} {fd fd1 fd2 fd3 fd4 : FuncData}
theorem ok_plOf {C fI : Addr} (F : Fun K "places_of" "places_of" sPlOf f fd) (T : Bn mg) (Z : LayC K mg C fI) (D_laid_out : Df K mg "laid_out" sLaid f1 fd1 ["value", "part"]) (G_laid_out : FnOk P w K mg base CX0 5 f1 fd1 ["value", "part"] (spLaid K C))
    (D_places_in : Df K mg "places_in" sPlaces f2 fd2 ["layout"]) (G_places_in : FnOk P w K mg base CX0 1 f2 fd2 ["layout"] (spPlaces C)) : FnOk P w K mg base CX0 6 f fd ["writing"] (spPlOf K) := by
  refine F.ok scPlOf (fun vs H Q E h => ?_) (fun cdv A outer s H vs Q E hr h => ?_)
  · obtain ⟨v, d, wr, rfl, _⟩ := h
    rfl
  obtain ⟨v, d, wr, rfl, hd, ht, hok, hn, q⟩ := h
  refine ⟨_, (pss_one (ps_ret (pe_callTy call_tuple_of (by rfl) T.b_tuple (by decide +kernel) (pa_cons (pe_cd D_places_in G_places_in hr (by decide) (pa_cons (pe_cd D_laid_out G_laid_out hr (by decide) (pa_cons (pv 0) (pa_cons pe_str pa_nil))) pa_nil)) pa_nil)))), ?_⟩
  refine ⟨_, rfl, v, _, d, wr, rfl, hd, ht, hok, hn, fun l H1 s1 hL => ?_⟩
  refine ⟨l, wr, rfl, hL, hn, fun p H2 s2 _ hP => ?_⟩
  obtain ⟨as, hp, hal, has⟩ := hP
  refine ⟨p, _, rfl, .inl ⟨SqL.of hp, fun t ht => ?_⟩⟩
  have x3 := new_same (o := .tup (as.map V.ref)) ht
  refine q t as _ (s1.trans (s2.trans x3)) (SqT.of upd_same) ?_
  refine pd_make (by rw [hal, Wr.pths_len]) fun i a ns ha hns => x3 _ _ ?_
  have hi : i < wr.sg := by rw [← hal]; exact lt_get ha
  rw [Wr.path_at hi] at hns
  cases hns
  exact has i a ha
theorem ok_partAt {C fI : Addr} (F : Fun K "part_at" "part_at" sPartAt f fd) (T : Bn mg) (Z : LayC K mg C fI) (D_laid_out : Df K mg "laid_out" sLaid f1 fd1 ["value", "part"]) (G_laid_out : FnOk P w K mg base CX0 5 f1 fd1 ["value", "part"] (spLaid K C))
    (D_index_at : Df K mg "index_at" sIdx f2 fd2 ["layout", "place"]) (G_index_at : FnOk P w K mg base CX0 3 f2 fd2 ["layout", "place"] (spIdx K C))
    (D_built_part : Df K mg "built_part" sPart f3 fd3 ["layout", "at"]) (G_built_part : FnOk P w K mg base CX0 2 f3 fd3 ["layout", "at"] (spPart C)) : FnOk P w K mg base CX0 6 f fd ["writing", "place"] (spPartAt K) := by
  refine F.ok scPartAt (fun vs H Q E h => ?_) (fun cdv A outer s H vs Q E hr h => ?_)
  · obtain ⟨v, pa, d, wr, s, i, rfl, _⟩ := h
    rfl
  obtain ⟨v, pa, d, wr, s', i, rfl, hd, ht, hok, hn, hs, hx, q⟩ := h
  refine ⟨_, (pss_cons (ps_set (i := 2) scPartAt.nd rfl (.inl rfl) (pe_cd D_laid_out G_laid_out hr (by decide) (pa_cons (pv 0) (pa_cons pe_str pa_nil))))
      (pss_one (ps_ret (pe_cd D_built_part G_built_part hr (by decide) (pa_cons (pv 2) (pa_cons (pe_cd D_index_at G_index_at hr (by decide) (pa_cons (pv 2) (pa_cons (pv 1) pa_nil))) pa_nil)))))), ?_⟩
  refine ⟨_, rfl, v, _, d, wr, rfl, hd, ht, hok, hn, fun l H1 s1 hL => ?_⟩
  refine ⟨_, rfl, _, rfl, _, rfl, l, pa, wr, i, rfl, hL, Wr.subs_lt hs, hn, hx.same s1, fun H2 s2 => ?_⟩
  exact ⟨l, wr, s', i, rfl, hL.same s2, hn, hs, fun v3 H3 s3 h3 => q v3 H3 (s1.trans (s2.trans s3)) h3⟩
theorem ok_with {C fI : Addr} (F : Fun K "with_part" "with_part" sWith f fd) (T : Bn mg) (Z : LayC K mg C fI) (D_laid_out : Df K mg "laid_out" sLaid f1 fd1 ["value", "part"]) (G_laid_out : FnOk P w K mg base CX0 5 f1 fd1 ["value", "part"] (spLaid K C))
    (D_index_at : Df K mg "index_at" sIdx f2 fd2 ["layout", "place"]) (G_index_at : FnOk P w K mg base CX0 3 f2 fd2 ["layout", "place"] (spIdx K C))
    (D_built_part : Df K mg "built_part" sPart f3 fd3 ["layout", "at"]) (G_built_part : FnOk P w K mg base CX0 2 f3 fd3 ["layout", "at"] (spPart C))
    (D_with_built : Df K mg "with_built" sWB f4 fd4 ["layout", "at", "part"]) (G_with_built : FnOk P w K mg base CX0 2 f4 fd4 ["layout", "at", "part"] (spWB C)) : FnOk P w K mg base CX0 6 f fd ["writing", "place", "part"] (spWith K) := by
  refine F.ok scWith (fun vs H Q E h => ?_) (fun cdv A outer s H vs Q E hr h => ?_)
  · obtain ⟨v, pa, u, d, e, wr, s, t, i, rfl, _⟩ := h
    rfl
  obtain ⟨v, pa, u, d, e, wr, s', t, i, rfl, hd, ht, hok, hn, hd2, ht2, hok2, hn2, hs, hx, q⟩ := h
  refine ⟨_, (pss_cons (ps_set (i := 3) scWith.nd rfl (.inl rfl) (pe_cd D_laid_out G_laid_out hr (by decide) (pa_cons (pv 0) (pa_cons pe_str pa_nil))))
      (pss_cons (ps_set (i := 4) scWith.nd rfl (.inl rfl) (pe_cd D_index_at G_index_at hr (by decide) (pa_cons (pv 3) (pa_cons (pv 1) pa_nil))))
      (pss_one (ps_ret (pe_cd D_with_built G_with_built hr (by decide) (pa_cons (pv 3) (pa_cons (pv 4) (pa_cons (pe_cd D_built_part G_built_part hr (by decide) (pa_cons (pe_cd D_laid_out G_laid_out hr (by decide) (pa_cons (pv 2) (pa_cons pe_str pa_nil))) (pa_cons pe_int pa_nil))) pa_nil)))))))), ?_⟩
  refine ⟨_, rfl, v, _, d, wr, rfl, hd, ht, hok, hn, fun l H1 s1 hL => ?_⟩
  refine ⟨_, rfl, _, rfl, l, pa, wr, i, rfl, hL, Wr.subs_lt hs, hn, hx.same s1, fun H2 s2 => ?_⟩
  have s02 := s1.trans s2
  refine ⟨_, rfl, _, rfl, _, rfl, u, _, e, t, rfl, dp_same s02 hd2, ht2, hok2, hn2, fun l2 H3 s3 hL2 => ?_⟩
  refine ⟨l2, t, t, 0, rfl, hL2, hn2, Wr.subs_zero t, fun v4 H4 s4 h4 => ?_⟩
  have s24 := s3.trans s4
  exact ⟨l, v4, wr, s', t, i, rfl, (hL.same s2).same s24, hs, hn, h4, fun v5 H5 s5 h5 => q v5 H5 (s02.trans (s24.trans s5)) h5⟩
end
end TF07
set_option maxHeartbeats 400000
/-! writings as data, compared and shown -/
namespace TG
open PySem PySem.Spec L2
open PyProof.Rows hiding St
theorem wd_depth : ∀ w : Wr, w.d.depth + 1 = w.ly
  | .nm _ => rfl
  | .of x b => by
    have h := wd_depth b
    show max 0 (max 0 (max b.d.depth 0)) + 1 + 1 = b.ly + 1
    omega
  | .to a b => by
    have h1 := wd_depth a
    have h2 := wd_depth b
    show max 0 (max a.d.depth (max b.d.depth 0)) + 1 + 1 = max a.ly b.ly + 1
    omega
theorem wd_lay : ∀ {w : Wr}, w.all okN = true → w.d.canLay0 = true
  | .nm z, h => Bt.ok_lay h
  | .of x b, h => by
    obtain ⟨h1, h2⟩ := Bool.and_eq_true_iff.mp (show (okN x && b.all okN) = true from h)
    show (PyData.canLay0 (.str "of") && (PyData.canLay0 (.str x) && (b.d.canLay0 && PyData.canLayAll0 []))) = true
    rw [show PyData.canLay0 (.str "of") = true by decide +kernel, Bt.ok_lay h1, wd_lay h2]
    rfl
  | .to a b, h => by
    obtain ⟨h1, h2⟩ := Bool.and_eq_true_iff.mp (show (a.all okN && b.all okN) = true from h)
    show (PyData.canLay0 (.str "to") && (a.d.canLay0 && (b.d.canLay0 && PyData.canLayAll0 []))) = true
    rw [show PyData.canLay0 (.str "to") = true by decide +kernel, wd_lay h1, wd_lay h2]
    rfl
theorem wd_shaped {w : Wr} (h : w.all okN = true) (l : w.ly ≤ 64) : SeqAt.shaped w.d = true := by
  have := wd_depth w
  unfold SeqAt.shaped
  rw [wd_lay h, decide_eq_true (by omega : w.d.depth ≤ 64)]
  rfl
theorem wd_self : ∀ w : Wr, PyData.eqv w.d w.d = true
  | .nm z => by show (z == z) = true; exact beq_self_eq_true z
  | .of x b => by
    show ((("of" : Str) == "of") && ((x == x) && (PyData.eqv b.d b.d && true))) = true
    rw [wd_self b, beq_self_eq_true, beq_self_eq_true]
    rfl
  | .to a b => by
    show ((("to" : Str) == "to") && (PyData.eqv a.d a.d && (PyData.eqv b.d b.d && true))) = true
    rw [wd_self a, wd_self b, beq_self_eq_true]
    rfl
theorem wd_showable : ∀ w : Wr, w.d.showable = true
  | .nm z => rfl
  | .of x b => by
    show (true && (true && (b.d.showable && true))) = true
    rw [wd_showable b]
    rfl
  | .to a b => by
    show (true && (a.d.showable && (b.d.showable && true))) = true
    rw [wd_showable a, wd_showable b]
    rfl
theorem wd_noDict : ∀ w : Wr, w.d.hasDict = false
  | .nm z => rfl
  | .of x b => by
    show (false || (false || (b.d.hasDict || false))) = false
    rw [wd_noDict b]
    rfl
  | .to a b => by
    show (false || (a.d.hasDict || (b.d.hasDict || false))) = false
    rw [wd_noDict a, wd_noDict b]
    rfl
theorem wd_fits {w : Wr} (h : w.all okN = true) (hs : w.sg ≤ 10000) : w.d.shown.length ≤ sizeLine := by
  have key : ∀ {w : Wr}, w.all okN = true → w.d.leavesShort 8 = true ∧ w.d.bulk ≤ 40 * w.sg := by
    intro w
    have leaf : ∀ {z : Str}, okN z = true → PyData.leavesShort 8 (.str z) = true ∧ PyData.bulk (.str z) ≤ 13 := fun {z} h => by
      obtain ⟨h1, h2⟩ := nms_short (l := [z]) (fun y hy => by rw [List.mem_singleton.mp hy]; exact h)
      refine ⟨(Bool.and_eq_true_iff.mp (show (PyData.leavesShort 8 (.str z) && true) = true from h1)).1, ?_⟩
      obtain ⟨z1, _⟩ := ok_signs h
      have h4 : z.cps.size ≤ 12 := z1
      show z.cps.size ≤ 13
      omega
    induction w with
    | nm z =>
      intro h
      obtain ⟨a, b⟩ := leaf (z := z) h
      refine ⟨a, ?_⟩
      show PyData.bulk (.str z) ≤ 40 * 1
      omega
    | of x b ih =>
      intro h
      obtain ⟨h1, h2⟩ := Bool.and_eq_true_iff.mp (show (okN x && b.all okN) = true from h)
      obtain ⟨a1, a2⟩ := leaf h1
      obtain ⟨b1, b2⟩ := ih h2
      refine ⟨?_, ?_⟩
      · show (PyData.leavesShort 8 (.str "of") && (PyData.leavesShort 8 (.str x) && (b.d.leavesShort 8 && true))) = true
        rw [a1, b1, show PyData.leavesShort 8 (.str "of") = true by decide +kernel]
        rfl
      · have e := show PyData.bulk (.str "of") = 2 by decide +kernel
        have g : (Wr.of x b).d.bulk = PyData.bulk (.str "of") + 1 + (PyData.bulk (.str x) + 1 + (b.d.bulk + 1 + 0)) := rfl
        show (Wr.of x b).d.bulk ≤ 40 * (b.sg + 1)
        omega
    | to a b i1 i2 =>
      intro h
      obtain ⟨h1, h2⟩ := Bool.and_eq_true_iff.mp (show (a.all okN && b.all okN) = true from h)
      obtain ⟨a1, a2⟩ := i1 h1
      obtain ⟨b1, b2⟩ := i2 h2
      refine ⟨?_, ?_⟩
      · show (PyData.leavesShort 8 (.str "to") && (a.d.leavesShort 8 && (b.d.leavesShort 8 && true))) = true
        rw [a1, b1, show PyData.leavesShort 8 (.str "to") = true by decide +kernel]
        rfl
      · have e := show PyData.bulk (.str "to") = 2 by decide +kernel
        have g : (Wr.to a b).d.bulk = PyData.bulk (.str "to") + 1 + (a.d.bulk + 1 + (b.d.bulk + 1 + 0)) := rfl
        show (Wr.to a b).d.bulk ≤ 40 * (a.sg + b.sg + 1)
        omega
  obtain ⟨h1, h2⟩ := key h
  exact PyData.shown_fits_bulk (B := 8) (by decide) (by decide) h1 (by omega)
/-- equality of data 150 layers deep -/
def rEqD2 (K : PySem.W.Frag) : R2 := fun x y H Q => ∃ d e, Dp K H x d ∧ Dp K H y e ∧ d.canLay0 = true ∧ e.canLay0 = true ∧ d.depth ≤ 150 ∧ Q (.bl (PyData.eqv d e)) H
section
variable {X : Cx}
theorem op_eqD2 (hu : X.A.units + 151 < cLine) : OpR X (compareOp .Eq) (rEqD2 X.K) := by
  intro pins s σ H x y v u Q I rx ry h
  obtain ⟨d, e, hd, he, sd, se, dd, q⟩ := h
  obtain ⟨as, r1⟩ := Dp.reads I d x v hd rx
  obtain ⟨bs, r2⟩ := Dp.reads I e y u he ry
  have h2 : min d.depth e.depth ≤ d.depth := Nat.min_le_left _ _
  exact SeqAt.compareEq_reads r1 r2 sd se (by omega) ⟨.bl _, H, I, rfl, q⟩
end
end TG
set_option maxHeartbeats 400000
/-! parts by their places -/
namespace TG
open PySem PySem.Spec L2
open PyProof.Rows hiding St
theorem path_of {x : Str} {b : Wr} {i : Nat} (h : i < b.sg) : (Wr.of x b).path (i + 1) = 0 :: b.path i := by
  have e := Wr.path_in (w := .of x b) (s := b) (j := 1) (m := i) (Wr.subs_zero b) h
  have e2 := Wr.path_kid (w := .of x b) (i := 0) (st := 0) (d := 1) (Wr.subs_zero _) rfl
  rw [Nat.zero_add, Wr.path_zero] at e2
  rw [Nat.add_comm i 1, e, e2]
  rfl
theorem path_one {a b : Wr} {i : Nat} (h : i < a.sg) : (Wr.to a b).path (i + 1) = 0 :: a.path i := by
  have k : (Wr.to a b).subs[1]? = some a := Wr.kid_one (w := .to a b) (i := 0) (Wr.subs_zero _)
  have e := Wr.path_in (w := .to a b) (s := a) (j := 1) (m := i) k h
  have e2 := Wr.path_kid (w := .to a b) (i := 0) (st := 0) (d := 1) (Wr.subs_zero _) rfl
  rw [Nat.zero_add, Wr.path_zero] at e2
  rw [Nat.add_comm i 1, e, e2]
  rfl
theorem path_two {a b : Wr} {i : Nat} (h : i < b.sg) : (Wr.to a b).path (a.sg + i + 1) = 1 :: b.path i := by
  have k : (Wr.to a b).subs[0 + 1 + a.sg]? = some b := Wr.kid_two (w := .to a b) (i := 0) (Wr.subs_zero _)
  have e := Wr.path_in (w := .to a b) (s := b) (j := 0 + 1 + a.sg) (m := i) k h
  have e2 := Wr.path_kid (w := .to a b) (i := 0) (st := 1) (d := 1 + a.sg) (Wr.subs_zero _) rfl
  rw [Wr.path_zero, ← Nat.add_assoc] at e2
  rw [show a.sg + i + 1 = 0 + 1 + a.sg + i by omega, e, e2]
  rfl
theorem repl_size {t : Wr} : ∀ (w : Wr) (i : Nat), (Wr.repl t w i).sg ≤ w.sg + t.sg ∧ (Wr.repl t w i).ly ≤ w.ly + t.ly
  | w, 0 => by
    have e : Wr.repl t w 0 = t := by cases w <;> rfl
    rw [e]
    exact ⟨Nat.le_add_left _ _, Nat.le_add_left _ _⟩
  | .nm _, i + 1 => ⟨Nat.le_add_right _ _, Nat.le_add_right _ _⟩
  | .of x b, i + 1 => by
    obtain ⟨h1, h2⟩ := repl_size (t := t) b i
    show (Wr.repl t b i).sg + 1 ≤ b.sg + 1 + t.sg ∧ (Wr.repl t b i).ly + 1 ≤ b.ly + 1 + t.ly
    omega
  | .to a b, i + 1 => by
    show (if i < a.sg then Wr.to (Wr.repl t a i) b else .to a (Wr.repl t b (i - a.sg))).sg ≤ a.sg + b.sg + 1 + t.sg ∧ (if i < a.sg then Wr.to (Wr.repl t a i) b else .to a (Wr.repl t b (i - a.sg))).ly ≤ max a.ly b.ly + 1 + t.ly
    by_cases l : i < a.sg
    · rw [if_pos l]
      obtain ⟨h1, h2⟩ := repl_size (t := t) a i
      show (Wr.repl t a i).sg + b.sg + 1 ≤ _ ∧ max (Wr.repl t a i).ly b.ly + 1 ≤ _
      omega
    · rw [if_neg l]
      obtain ⟨h1, h2⟩ := repl_size (t := t) b (i - a.sg)
      show a.sg + (Wr.repl t b (i - a.sg)).sg + 1 ≤ _ ∧ max a.ly (Wr.repl t b (i - a.sg)).ly + 1 ≤ _
      omega
def atP : Wr → List Nat → Option Wr
  | w, [] => some w
  | .of _ b, 0 :: r => atP b r
  | .to a _, 0 :: r => atP a r
  | .to _ b, 1 :: r => atP b r
  | _, _ => none
def repP (t : Wr) : Wr → List Nat → Wr
  | _, [] => t
  | .of x b, 0 :: r => .of x (repP t b r)
  | .to a b, 0 :: r => .to (repP t a r) b
  | .to a b, 1 :: r => .to a (repP t b r)
  | w, _ => w
theorem atP_nil (w : Wr) : atP w [] = some w := by cases w <;> rfl
theorem repP_nil (t w : Wr) : repP t w [] = t := by cases w <;> rfl
theorem idx_of : ∀ {p : List Nat} {w s : Wr}, atP w p = some s → ∃ i, w.subs[i]? = some s ∧ w.path i = p
  | [], w, s, h => by
    rw [atP_nil] at h
    cases h
    exact ⟨0, Wr.subs_zero _, Wr.path_zero _⟩
  | 0 :: r, .of x b, s, h => by
    obtain ⟨i, h1, h2⟩ := idx_of (w := b) h
    exact ⟨i + 1, h1, by rw [path_of (Wr.subs_lt h1), h2]⟩
  | 0 :: r, .to a b, s, h => by
    obtain ⟨i, h1, h2⟩ := idx_of (w := a) h
    refine ⟨i + 1, ?_, by rw [path_one (Wr.subs_lt h1), h2]⟩
    show (a.subs ++ b.subs)[i]? = some s
    rw [List.getElem?_append_left (by rw [Wr.subs_len]; exact Wr.subs_lt h1)]
    exact h1
  | 1 :: r, .to a b, s, h => by
    obtain ⟨i, h1, h2⟩ := idx_of (w := b) h
    refine ⟨a.sg + i + 1, ?_, by rw [path_two (Wr.subs_lt h1), h2]⟩
    show (a.subs ++ b.subs)[a.sg + i]? = some s
    rw [List.getElem?_append_right (by rw [Wr.subs_len]; omega), Wr.subs_len, show a.sg + i - a.sg = i by omega]
    exact h1
  | _ :: _, .nm _, _, h => by simp [atP] at h
  | (n + 1) :: _, .of _ _, _, h => by simp [atP] at h
  | (n + 2) :: _, .to _ _, _, h => by simp [atP] at h
theorem at_path {s : Wr} : ∀ {w : Wr} {i : Nat}, w.subs[i]? = some s → atP w (w.path i) = some s
  | w, 0, h => by
    rw [Wr.subs_zero] at h
    cases h
    rw [Wr.path_zero, atP_nil]
  | .nm _, i + 1, h => nomatch h
  | .of x b, i + 1, h => by
    rw [path_of (Wr.subs_lt (show b.subs[i]? = _ from h))]
    exact at_path (w := b) (i := i) h
  | .to a b, i + 1, h => by
    have h : (a.subs ++ b.subs)[i]? = some s := h
    by_cases l : i < a.sg
    · rw [List.getElem?_append_left (by rw [Wr.subs_len]; exact l)] at h
      rw [path_one l]
      exact at_path (w := a) (i := i) h
    · rw [List.getElem?_append_right (by rw [Wr.subs_len]; omega), Wr.subs_len] at h
      have e := path_two (a := a) (Wr.subs_lt h)
      rw [show a.sg + (i - a.sg) = i by omega] at e
      rw [e]
      exact at_path (w := b) (i := i - a.sg) h
theorem rep_eq {s t : Wr} : ∀ {w : Wr} {i : Nat}, w.subs[i]? = some s → Wr.repl t w i = repP t w (w.path i)
  | w, 0, h => by
    rw [Wr.path_zero, repP_nil]
    cases w <;> rfl
  | .nm _, i + 1, h => nomatch h
  | .of x b, i + 1, h => by
    rw [path_of (Wr.subs_lt (show b.subs[i]? = _ from h))]
    exact congrArg (Wr.of x) (rep_eq (w := b) (i := i) h)
  | .to a b, i + 1, h => by
    have h : (a.subs ++ b.subs)[i]? = some s := h
    show (if i < a.sg then Wr.to (Wr.repl t a i) b else .to a (Wr.repl t b (i - a.sg))) = _
    by_cases l : i < a.sg
    · rw [List.getElem?_append_left (by rw [Wr.subs_len]; exact l)] at h
      rw [path_one l, if_pos l]
      show _ = Wr.to (repP t a (a.path i)) b
      rw [rep_eq (w := a) (i := i) h]
    · rw [List.getElem?_append_right (by rw [Wr.subs_len]; omega), Wr.subs_len] at h
      have e := path_two (a := a) (Wr.subs_lt h)
      rw [show a.sg + (i - a.sg) = i by omega] at e
      rw [e, if_neg l]
      show _ = Wr.to a (repP t b (b.path (i - a.sg)))
      rw [rep_eq (w := b) (i := i - a.sg) h]
theorem at_app {t : Wr} {r : List Nat} : ∀ {p : List Nat} {w s : Wr}, atP w p = some s → atP (repP t w p) (p ++ r) = atP t r
  | [], w, s, h => by rw [repP_nil]; rfl
  | 0 :: p, .of x b, s, h => at_app (w := b) h
  | 0 :: p, .to a b, s, h => at_app (w := a) h
  | 1 :: p, .to a b, s, h => at_app (w := b) h
  | _ :: _, .nm _, _, h => by simp [atP] at h
  | (n + 1) :: _, .of _ _, _, h => by simp [atP] at h
  | (n + 2) :: _, .to _ _, _, h => by simp [atP] at h
theorem rep_app {t o : Wr} {r : List Nat} : ∀ {p : List Nat} {w s : Wr}, atP w p = some s → repP o (repP t w p) (p ++ r) = repP (repP o t r) w p
  | [], w, s, h => by rw [repP_nil, repP_nil]; rfl
  | 0 :: p, .of x b, s, h => congrArg (Wr.of x) (rep_app (w := b) h)
  | 0 :: p, .to a b, s, h => congrArg (fun z => Wr.to z b) (rep_app (w := a) h)
  | 1 :: p, .to a b, s, h => congrArg (Wr.to a) (rep_app (w := b) h)
  | _ :: _, .nm _, _, h => by simp [atP] at h
  | (n + 1) :: _, .of _ _, _, h => by simp [atP] at h
  | (n + 2) :: _, .to _ _, _, h => by simp [atP] at h
theorem rep_back {t : Wr} : ∀ {p : List Nat} {w s : Wr}, atP w p = some s → repP s (repP t w p) p = w
  | [], w, s, h => by
    rw [atP_nil] at h
    cases h
    rw [repP_nil]
  | 0 :: p, .of x b, s, h => congrArg (Wr.of x) (rep_back (w := b) h)
  | 0 :: p, .to a b, s, h => congrArg (fun z => Wr.to z b) (rep_back (w := a) h)
  | 1 :: p, .to a b, s, h => congrArg (Wr.to a) (rep_back (w := b) h)
  | _ :: _, .nm _, _, h => by simp [atP] at h
  | (n + 1) :: _, .of _ _, _, h => by simp [atP] at h
  | (n + 2) :: _, .to _ _, _, h => by simp [atP] at h
theorem take_ne {a : Nat} {p q : List Nat} (h : (a :: p).take (a :: q).length ≠ a :: q) : p.take q.length ≠ q := fun e => h (by
  show a :: p.take q.length = a :: q
  rw [e])
theorem at_apart {t : Wr} : ∀ {p q : List Nat} {w s u : Wr}, atP w p = some s → atP w q = some u → p.take q.length ≠ q → q.take p.length ≠ p → atP (repP t w p) q = some u
  | [], q, w, s, u, _, _, _, h => absurd rfl h
  | _ :: _, [], w, s, u, _, _, h, _ => absurd rfl h
  | 0 :: p, 0 :: q, .of x b, s, u, h1, h2, h3, h4 => at_apart (w := b) h1 h2 (take_ne h3) (take_ne h4)
  | 0 :: p, 0 :: q, .to a b, s, u, h1, h2, h3, h4 => at_apart (w := a) h1 h2 (take_ne h3) (take_ne h4)
  | 1 :: p, 1 :: q, .to a b, s, u, h1, h2, h3, h4 => at_apart (w := b) h1 h2 (take_ne h3) (take_ne h4)
  | 0 :: p, 1 :: q, .to a b, s, u, h1, h2, h3, h4 => h2
  | 1 :: p, 0 :: q, .to a b, s, u, h1, h2, h3, h4 => h2
  | _ :: _, _ :: _, .nm _, _, _, h, _, _, _ => by simp [atP] at h
  | (n + 1) :: _, _ :: _, .of _ _, _, _, h, _, _, _ => by simp [atP] at h
  | 0 :: _, (n + 1) :: _, .of _ _, _, _, _, h, _, _ => by simp [atP] at h
  | (n + 2) :: _, _ :: _, .to _ _, _, _, h, _, _, _ => by simp [atP] at h
  | 0 :: _, (n + 2) :: _, .to _ _, _, _, _, h, _, _ => by simp [atP] at h
  | 1 :: _, (n + 2) :: _, .to _ _, _, _, _, h, _, _ => by simp [atP] at h
theorem rep_comm {t o : Wr} : ∀ {p q : List Nat} {w s u : Wr}, atP w p = some s → atP w q = some u → p.take q.length ≠ q → q.take p.length ≠ p → repP o (repP t w p) q = repP t (repP o w q) p
  | [], q, w, s, u, _, _, _, h => absurd rfl h
  | _ :: _, [], w, s, u, _, _, h, _ => absurd rfl h
  | 0 :: p, 0 :: q, .of x b, s, u, h1, h2, h3, h4 => congrArg (Wr.of x) (rep_comm (w := b) h1 h2 (take_ne h3) (take_ne h4))
  | 0 :: p, 0 :: q, .to a b, s, u, h1, h2, h3, h4 => congrArg (fun z => Wr.to z b) (rep_comm (w := a) h1 h2 (take_ne h3) (take_ne h4))
  | 1 :: p, 1 :: q, .to a b, s, u, h1, h2, h3, h4 => congrArg (Wr.to a) (rep_comm (w := b) h1 h2 (take_ne h3) (take_ne h4))
  | 0 :: p, 1 :: q, .to a b, s, u, h1, h2, h3, h4 => rfl
  | 1 :: p, 0 :: q, .to a b, s, u, h1, h2, h3, h4 => rfl
  | _ :: _, _ :: _, .nm _, _, _, h, _, _, _ => by simp [atP] at h
  | (n + 1) :: _, _ :: _, .of _ _, _, _, h, _, _, _ => by simp [atP] at h
  | 0 :: _, (n + 1) :: _, .of _ _, _, _, _, h, _, _ => by simp [atP] at h
  | (n + 2) :: _, _ :: _, .to _ _, _, _, h, _, _, _ => by simp [atP] at h
  | 0 :: _, (n + 2) :: _, .to _ _, _, _, _, h, _, _ => by simp [atP] at h
  | 1 :: _, (n + 2) :: _, .to _ _, _, _, _, h, _, _ => by simp [atP] at h
/-! ### places, ascending -/
def kI (ns : List Nat) : List Int := ns.map fun n => ((n : Nat) : Int)
theorem lex_pre : ∀ (e a b : List Int), HT.lexLt (e ++ a) (e ++ b) = HT.lexLt a b
  | [], _, _ => rfl
  | x :: e, a, b => by
    show HT.lexLt (x :: (e ++ a)) (x :: (e ++ b)) = _
    rw [HT.lexLt_cons, if_pos rfl]
    exact lex_pre e a b
theorem lex_total : ∀ {a b : List Int}, HT.lexLt a b = false → HT.lexLt b a = false → a = b
  | [], [], _, _ => rfl
  | [], y :: ys, h, _ => by rw [HT.lexLt_nil_cons] at h; cases h
  | x :: xs, [], _, h => by rw [HT.lexLt_nil_cons] at h; cases h
  | x :: xs, y :: ys, h1, h2 => by
    rw [HT.lexLt_cons] at h1 h2
    by_cases e : x = y
    · subst e
      rw [if_pos rfl] at h1 h2
      rw [lex_total h1 h2]
    · rw [if_neg e] at h1
      rw [if_neg (Ne.symm e)] at h2
      have a := of_decide_eq_false h1
      have b := of_decide_eq_false h2
      omega
theorem sorted_uniq : ∀ {l m : List (List Int)}, l.Perm m → l.Pairwise (fun p q => HT.lexLt q p = false) → m.Pairwise (fun p q => HT.lexLt q p = false) → l = m
  | [], m, p, _, _ => (List.nil_perm.mp p).symm
  | x :: l, [], p, _, _ => absurd p.length_eq (by simp)
  | x :: l, y :: m, p, hl, hm => by
    obtain ⟨a1, a2⟩ := List.pairwise_cons.mp hl
    obtain ⟨b1, b2⟩ := List.pairwise_cons.mp hm
    have e : x = y := by
      rcases List.mem_cons.mp (p.mem_iff.mp List.mem_cons_self) with h | h
      · exact h
      rcases List.mem_cons.mp (p.mem_iff.mpr List.mem_cons_self) with h2 | h2
      · exact h2.symm
      exact lex_total (b1 x h) (a1 y h2)
    subst e
    rw [sorted_uniq (List.Perm.cons_inv p) a2 b2]
theorem pths_ext {w : Wr} {e q : List Nat} (h : q ∈ w.pths e) : ∃ r, q = e ++ r := by
  rw [Wr.pths_pre] at h
  obtain ⟨r, _, rfl⟩ := List.mem_map.mp h
  exact ⟨r, rfl⟩
theorem kI_app (a b : List Nat) : kI (a ++ b) = kI a ++ kI b := List.map_append
theorem lex_ext : ∀ (e : List Nat) (n : Nat) (r : List Nat), HT.lexLt (kI e) (kI (e ++ n :: r)) = true
  | [], n, r => rfl
  | x :: e, n, r => by
    show HT.lexLt ((x : Int) :: kI e) ((x : Int) :: kI (e ++ n :: r)) = true
    rw [HT.lexLt_cons, if_pos rfl]
    exact lex_ext e n r
theorem lex_two : ∀ (e r r2 : List Nat), HT.lexLt (kI (e ++ 0 :: r)) (kI (e ++ 1 :: r2)) = true
  | [], r, r2 => by
    show HT.lexLt ((0 : Int) :: kI r) ((1 : Int) :: kI r2) = true
    rw [HT.lexLt_cons, if_neg (by decide)]
    rfl
  | x :: e, r, r2 => by
    show HT.lexLt ((x : Int) :: kI (e ++ 0 :: r)) ((x : Int) :: kI (e ++ 1 :: r2)) = true
    rw [HT.lexLt_cons, if_pos rfl]
    exact lex_two e r r2
theorem pths_rise : ∀ (w : Wr) (e : List Nat), (w.pths e).Pairwise (fun a b => HT.lexLt (kI a) (kI b) = true)
  | .nm _, e => List.pairwise_singleton _ _
  | .of x b, e => by
    refine List.pairwise_cons.mpr ⟨fun q hq => ?_, pths_rise b _⟩
    obtain ⟨r, rfl⟩ := pths_ext hq
    rw [List.append_assoc]
    exact lex_ext e 0 r
  | .to a b, e => by
    refine List.pairwise_cons.mpr ⟨fun q hq => ?_, List.pairwise_append.mpr ⟨pths_rise a _, pths_rise b _, fun p hp q hq => ?_⟩⟩
    · rcases List.mem_append.mp hq with hq | hq
      · obtain ⟨r, rfl⟩ := pths_ext hq
        rw [List.append_assoc]
        exact lex_ext e 0 r
      · obtain ⟨r, rfl⟩ := pths_ext hq
        rw [List.append_assoc]
        exact lex_ext e 1 r
    · obtain ⟨r, rfl⟩ := pths_ext hp
      obtain ⟨r2, rfl⟩ := pths_ext hq
      rw [List.append_assoc, List.append_assoc]
      exact lex_two e r r2
theorem rise_sorted {l : List (List Nat)} (h : l.Pairwise (fun a b => HT.lexLt (kI a) (kI b) = true)) : (l.map kI).Pairwise (fun p q => HT.lexLt q p = false) :=
  List.pairwise_map.mpr (h.imp fun {a b} e => NtL.lex_asym _ _ e)
/-- the places of the whole with another part at a place -/
theorem pths_rep {t : Wr} : ∀ {q : List Nat} {w s : Wr}, atP w q = some s → ((repP t w q).pths []).Perm (((w.pths []).filter fun p => decide (p.take q.length ≠ q)) ++ (t.pths []).map (q ++ ·))
  | [], w, s, h => by
    rw [repP_nil]
    have e : (w.pths []).filter (fun p => decide (p.take ([] : List Nat).length ≠ [])) = [] := List.filter_eq_nil_iff.mpr fun p _ z => of_decide_eq_true z rfl
    rw [e, List.nil_append]
    show ((t.pths []).Perm ((t.pths []).map fun r => r))
    rw [List.map_id']
  | 0 :: q, .of x b, s, h => by
    have ih := pths_rep (t := t) (w := b) h
    show ([] :: (repP t b q).pths [0]).Perm (([] :: b.pths [0]).filter _ ++ _)
    rw [List.filter_cons_of_pos (by exact decide_eq_true (List.cons_ne_nil 0 q).symm), Wr.pths_pre (repP t b q) [0], Wr.pths_pre b [0], List.filter_map, List.cons_append]
    refine List.Perm.cons _ ?_
    refine (ih.map ([0] ++ ·)).trans (List.Perm.of_eq ?_)
    rw [List.map_append, List.map_map]
    congr 1
    refine congrArg (List.map ([0] ++ ·)) (List.filter_congr fun p _ => ?_)
    exact decide_eq_decide.mpr ⟨fun h e => h (List.cons.inj e).2, fun h e => h (congrArg (0 :: ·) e)⟩
  | 0 :: q, .to a b, s, h => by
    have ih := pths_rep (t := t) (w := a) h
    show ([] :: ((repP t a q).pths [0] ++ b.pths [1])).Perm (([] :: (a.pths [0] ++ b.pths [1])).filter _ ++ _)
    rw [List.filter_cons_of_pos (by exact decide_eq_true (List.cons_ne_nil 0 q).symm), List.filter_append, Wr.pths_pre (repP t a q) [0], Wr.pths_pre a [0], Wr.pths_pre b [1], List.filter_map, List.filter_map, List.cons_append]
    refine List.Perm.cons _ ?_
    have e1 : (b.pths []).filter ((fun p => decide (p.take (0 :: q).length ≠ 0 :: q)) ∘ fun x => [1] ++ x) = b.pths [] := List.filter_eq_self.mpr fun p _ => by
      show decide (([1] ++ p).take (0 :: q).length ≠ 0 :: q) = true
      refine decide_eq_true fun e => ?_
      have := (List.cons.inj (show 1 :: p.take q.length = 0 :: q from e)).1
      omega
    have e2 : (a.pths []).filter ((fun p => decide (p.take (0 :: q).length ≠ 0 :: q)) ∘ fun x => [0] ++ x) = (a.pths []).filter fun p => decide (p.take q.length ≠ q) := List.filter_congr fun p _ =>
      decide_eq_decide.mpr ⟨fun h e => h (congrArg (0 :: ·) e), fun h e => h (List.cons.inj e).2⟩
    rw [e1, e2]
    refine ((ih.map ([0] ++ ·)).append_right _).trans ?_
    rw [List.map_append, List.map_map, List.append_assoc, List.append_assoc]
    refine List.Perm.append_left _ ?_
    exact List.perm_append_comm
  | 1 :: q, .to a b, s, h => by
    have ih := pths_rep (t := t) (w := b) h
    show ([] :: (a.pths [0] ++ (repP t b q).pths [1])).Perm (([] :: (a.pths [0] ++ b.pths [1])).filter _ ++ _)
    rw [List.filter_cons_of_pos (by exact decide_eq_true (List.cons_ne_nil 1 q).symm), List.filter_append, Wr.pths_pre (repP t b q) [1], Wr.pths_pre a [0], Wr.pths_pre b [1], List.filter_map, List.filter_map, List.cons_append]
    refine List.Perm.cons _ ?_
    have e1 : (a.pths []).filter ((fun p => decide (p.take (1 :: q).length ≠ 1 :: q)) ∘ fun x => [0] ++ x) = a.pths [] := List.filter_eq_self.mpr fun p _ => by
      show decide (([0] ++ p).take (1 :: q).length ≠ 1 :: q) = true
      refine decide_eq_true fun e => ?_
      have := (List.cons.inj (show 0 :: p.take q.length = 1 :: q from e)).1
      omega
    have e2 : (b.pths []).filter ((fun p => decide (p.take (1 :: q).length ≠ 1 :: q)) ∘ fun x => [1] ++ x) = (b.pths []).filter fun p => decide (p.take q.length ≠ q) := List.filter_congr fun p _ =>
      decide_eq_decide.mpr ⟨fun h e => h (congrArg (1 :: ·) e), fun h e => h (List.cons.inj e).2⟩
    rw [e1, e2, List.append_assoc]
    refine List.Perm.append_left _ ?_
    refine (ih.map ([1] ++ ·)).trans (List.Perm.of_eq ?_)
    rw [List.map_append, List.map_map]
    rfl
  | _ :: _, .nm _, _, h => by simp [atP] at h
  | (n + 1) :: _, .of _ _, _, h => by simp [atP] at h
  | (n + 2) :: _, .to _ _, _, h => by simp [atP] at h
end TG
/-! sorted of a list of tuples of numbers, of any lengths, the first tuple empty -/
namespace TuS
open PySem PyProof.Rows PySem.W
/-- a plain tuple of these numbers -/
def IsTI (h : Heap) (v : Value) (ns : List Int) : Prop := ∃ a its, v = .ref a ∧ IsTup h a its ∧ IntsAre its.toList ns
theorem IsTI.keeps {h h' : Heap} {v : Value} {ns : List Int} (x : IsTI h v ns) (k : ∀ b o, v = .ref b → h.get? b = some o → h'.get? b = some o) : IsTI h' v ns := by
  obtain ⟨a, its, rfl, ⟨o, e, c, n, d⟩, i⟩ := x
  exact ⟨a, its, rfl, ⟨o, k a o rfl e, c, n, d⟩, i⟩
section
variable {prog : Program} {w : World} {A : Around} {E : Value → Shared → Prop} {s : Shared}
theorem IsTI.looks {M : Model} {v : Value} {ns : List Int} (x : IsTI s.heap v ns) : Looks M s.heap (typeOf v) (.type "tuple") := by
  obtain ⟨a, its, rfl, ⟨o, e, c, n, d⟩, i⟩ := x
  have z : Looks M s.heap (typeOf (.ref a)) o.cls := (Looks.ld e).andThen .now
  rw [c] at z
  exact z
theorem call_tup_lt {l b : Addr} {items items2 : Array Value} {ns ms : List Int} {Q : Value → Shared → Prop} (hl : IsTup s.heap l items) (hb : IsTup s.heap b items2) (hi : IntsAre items.toList ns) (hj : IntsAre items2.toList ms)
    (h : Q (.bool (HT.lexLt ns ms)) s) : wpAny (model prog w) A (call (.builtin "tuple.__lt__") [.ref l, .ref b]) Q E s := by
  obtain ⟨⟨cls, dd, data, sl⟩, ho, hc, n, hd⟩ := id hl
  obtain ⟨⟨cls2, dd2, data2, sl2⟩, ho2, hc2, n2, hd2⟩ := id hb
  simp only at hc hd hc2 hd2
  subst hc hd hc2 hd2
  exact call_meets PySem.F.slot_tuple_lt ⟨_, ho, rfl⟩ PySem.F.entry_tuple_lt (PySem.F.args_tuple_lt_2 _ _) (HT.tuple_lt_ints l b items items2 n n2 dd dd2 sl sl2 ns ms hi hj) ⟨ho, ho2, h⟩
theorem ti_lt {v u : Value} {ns ms : List Int} {Q : Bool → Shared → Prop} (hu : A.units < cLine) (hv : IsTI s.heap v ns) (hw : IsTI s.heap u ms) (h : Q (HT.lexLt ns ms) s) : wpAny (model prog w) A (keyLt' oneType' v u) Q E s := by
  obtain ⟨a, its, rfl, ta, ia⟩ := hv
  obtain ⟨b, its2, rfl, tb, ib⟩ := hw
  obtain ⟨o, e, c, _⟩ := id ta
  rw [keyLt'_oneType, oneLt'_eq]
  simp only [if_true]
  refine wpAny_bind (wpAny_cRoomFor hu ?_)
  refine wpAny_bind (wpAny_callSpecialIfBound?_slot (T := "tuple") ⟨_, e, c⟩ PySem.F.slot_tuple_lt (call_tup_lt ta tb ia ib ?_))
  exact wpAny_truthy_bool h
theorem firsts_ti {k : Value → List Int} : ∀ (vs : List Value) {Q : List (Option Value) → Shared → Prop}, (∀ v ∈ vs, IsTI s.heap v (k v)) → (∀ fs : List (Option Value), (∀ v r, vs = v :: r → k v = [] → ∃ fr, fs = none :: fr) → Q fs s) → wpAny (model prog w) A (vs.mapM firstOfTuple') Q E s
  | [], Q, _, h => by rw [List.mapM_nil]; exact wpAny_pure (h [] fun v r e => by cases e)
  | v :: vs, Q, hv, h => by
    have h1 := hv v List.mem_cons_self
    have lk := h1.looks (M := model prog w)
    obtain ⟨a, its, rfl, ⟨o, e, c, n, d⟩, i⟩ := h1
    rw [List.mapM_cons]
    refine wpAny_bind ?_
    rw [kas_first_eq]
    refine wpAny_bind (lk.here ?_)
    rw [if_neg (by decide)]
    refine wpAny_bind (listItems_at e d (wpAny_pure ?_))
    refine wpAny_bind (firsts_ti vs (Q := fun bs s' => wpAny (model prog w) A (pure (its[0]? :: bs)) Q E s') (fun u hu => hv u (List.mem_cons_of_mem _ hu)) fun fs _ => wpAny_pure (h _ fun v' r e2 hk => ?_))
    cases e2
    rw [hk] at i
    have : its.toList = [] := by cases hh : its.toList with | nil => rfl | cons x y => rw [hh] at i; cases i
    have z : its[0]? = none := by rw [← Array.getElem?_toList, this]; rfl
    exact ⟨fs, by rw [z]⟩
theorem kind_ti {k : Value → List Int} {vs : List Value} {Q : SortKind → Shared → Prop} (h2 : 2 ≤ vs.length) (hv : ∀ v ∈ vs, IsTI s.heap v (k v)) (h0 : ∀ v r, vs = v :: r → k v = []) (h : Q oneType' s) : wpAny (model prog w) A (keyKind' vs.toArray) Q E s := by
  obtain ⟨v₁, v₂, rest, rfl⟩ : ∃ v₁ v₂ rest, vs = v₁ :: v₂ :: rest := by
    match vs, h2 with
    | [], h2 => simp at h2
    | [_], h2 => simp at h2
    | v₁ :: v₂ :: rest, _ => exact ⟨v₁, v₂, rest, rfl⟩
  rw [keyKind'_eq, List.mapM_toArray, map_eq_pure_bind]
  refine wpAny_bind (wpAny_bind (firsts_ti (k := k) _ hv fun fs hf => wpAny_pure ?_))
  obtain ⟨fr, rfl⟩ := hf _ _ rfl (h0 _ _ rfl)
  rw [if_neg (by simp), if_neg (by simp)]
  rw [oneTypeOnly'_eq, List.mapM_toArray, map_eq_pure_bind]
  refine wpAny_bind (wpAny_bind (wpAny_bind (kas_mapM (r := Value.type "tuple") _ (fun v hm Q' hq => (hv v hm).looks.here hq) (wpAny_pure ?_))))
  have hall : ((List.map (fun _ => Value.type "tuple") (v₁ :: v₂ :: rest)).toArray.all fun x => x == Value.type "tuple") = true := by
    simp only [List.all_toArray, List.all_map, List.all_eq_true]
    intro _ _
    rfl
  have h0' : (List.map (fun _ => Value.type "tuple") (v₁ :: v₂ :: rest)).toArray[0]? = some (Value.type "tuple") := by simp
  rw [h0']
  simp only [hall, if_true]
  exact wpAny_pure (wpAny_pure h)
theorem ti_sortable {a : Addr} {vs : List Value} {k : Value → List Int} (h2 : 2 ≤ vs.length) (hu : A.units < cLine) (hv : ∀ v ∈ vs, IsTI s.heap v (k v)) (h0 : ∀ v r, vs = v :: r → k v = []) (ha : ∀ v ∈ vs, v ≠ .ref a) :
    SrtO.SortableO prog w A s a vs fun v u => HT.lexLt (k v) (k u) := by
  intro h' keep
  have hv' : ∀ v ∈ vs, IsTI h' v (k v) := fun v hm => (hv v hm).keeps fun b o e g => keep b o (fun z => ha v hm (by rw [e, z])) g
  refine ⟨oneType', fun Q E hq => kind_ti (s := { s with heap := h' }) h2 hv' h0 hq, fun p q hp hq => ?_⟩
  exact ti_lt (s := { s with heap := h' }) (Q := fun r s' => s' = { s with heap := h' } ∧ r = HT.lexLt (k p.1) (k q.1)) (E := fun _ _ => False) hu (hv' p.1 hp) (hv' q.1 hq) ⟨rfl, rfl⟩
end
end TuS
namespace TG
open PySem PySem.Spec L2 PyProof.Rows
/-- sorted(xs), xs a list of tuples of numbers (k says which), the first of them empty -/
def rSortTI (K : PySem.W.Frag) : List V → Hp → VK → Prop := fun vs H Q => ∃ (a : Addr) (ts : List Addr) (k : Addr → List Int), vs = [V.ref a] ∧ SqL K H a (ts.map V.ref) ∧ (∀ t ∈ ts, SqT K H t ((k t).map V.int)) ∧ (∀ t r, ts = t :: r → k t = []) ∧
  ∀ (ts' : List Addr) (p : Addr), ts'.Perm ts → ts'.Pairwise (fun p q => HT.lexLt (k q) (k p) = false) → H p = none → Q (.ref p) (upd H p (.lst (ts'.map V.ref)))
section
variable {X : Cx}
theorem cr_sortTI (hu : X.A.units + 64 < cLine) : CallR X (.builtin "sorted") (rSortTI X.K) := by
  intro pins s σ H vs us Q I r h
  obtain ⟨a, ts, k, rfl, hs, hT, h0, q⟩ := h
  obtain ⟨its, rv, hl, hz⟩ := I.list hs
  rw [Vals.ref1 r]
  have ei := nts_of rv
  have hv : ∀ u ∈ its, TuS.IsTI s.heap u (k (adO u)) := fun u hm => by
    rw [ei] at hm
    obtain ⟨t, ht, rfl⟩ := List.mem_map.mp hm
    obtain ⟨xs, rx, hx, _⟩ := I.tuple (hT t ht)
    exact ⟨t, xs.toArray, rfl, hx, by show IntsAre xs.toArray.toList (k t); simpa using rx.ints⟩
  have h0' : ∀ v r, its = v :: r → k (adO v) = [] := fun v r e => by
    rw [e] at ei
    cases ts with
    | nil => cases ei
    | cons t ts =>
      rw [List.map_cons] at ei
      injection ei with e1 e2
      rw [e1]
      exact h0 t ts rfl
  refine SrtO.sorted_ord (NtL.swo_lexL fun u => k (adO u)) hl.isList (by rw [← rv.length]; exact hz) (fun h2 h₁ a' ha' kp => ?_) fun out h1 h2 => ?_
  · refine TuS.ti_sortable (s := { s with heap := h₁ }) h2 (by show X.A.units + 1 + 1 < cLine; omega) (fun v hm => (hv v hm).keeps fun b o _ e => (kp b o e).2) h0' fun v hm z => ?_
    obtain ⟨b, its2, e, ⟨o, e2, _⟩, _⟩ := hv v hm
    rw [e] at z
    injection z with z
    exact (kp b o e2).1 z
  have eo : out = (out.map adO).map Value.ref := ref_map fun u hm => by
    have hm' : u ∈ its := h2.perm.mem_iff.mp hm
    rw [ei] at hm'
    obtain ⟨t, _, e⟩ := List.mem_map.mp hm'
    exact ⟨t, e.symm⟩
  have hp : (out.map adO).Perm ts := by
    have p1 := h2.perm.map adO
    rw [ei, ad_map] at p1
    exact p1
  have hso : (out.map adO).Pairwise (fun p q => HT.lexLt (k q) (k p) = false) := List.pairwise_map.mpr (h1.imp fun {x y} z => z)
  obtain ⟨ep, he'⟩ := PyProof.Rows.sortedAll_at s.heap its out.toArray
  have hlen : ((out.map adO).map V.ref).length ≤ sizeLine := by
    rw [List.length_map, hp.length_eq]
    rw [List.length_map] at hz
    exact hz
  have rvo : Vals ((out.map adO).map V.ref) out := by
    have z := of_nts (out.map adO)
    rw [← eo] at z
    exact z
  exact ⟨.ref _, upd H (s.heap.objs.size + 1) (.lst ((out.map adO).map V.ref)), I.laid (t' := s.toks) (fun _ _ => PyProof.Rows.sortedAll_old) (Nat.le_succ _) ⟨hlen, out, ep, rvo, he'⟩, rfl, q _ _ hp hso (I.hok.fresh (Nat.le_succ _))⟩
end
end TG
set_option maxHeartbeats 400000
namespace TF07
open PySem PySem.Spec L2 TG TA
open PyProof.Rows hiding St
/-! ### all places with what stands there -/
def TupKeep (H H' : Hp) : Prop := ∀ b xs, H b = some (.tup xs) → H' b = some (.tup xs)
theorem TupKeep.trans {A B C : Hp} (a : TupKeep A B) (b : TupKeep B C) : TupKeep A C := fun x xs h => b x xs (a x xs h)
theorem TupKeep.of_same {A B : Hp} (s : Same A B) : TupKeep A B := fun x xs h => s x _ h
theorem TupKeep.put {H : Hp} {L : Addr} {xs ys : List V} (h : H L = some (.lst xs)) : TupKeep H (L2.upd H L (.lst ys)) := fun b zs e => by
  rw [upd_ne (fun z => by subst z; rw [h] at e; cases e)]
  exact e
theorem PlaceT.tk {H H' : Hp} {a : Addr} {ns : List Nat} (h : PlaceT H a ns) (k : TupKeep H H') : PlaceT H' a ns := k _ _ h
/-- a pair of a place and the part there -/
def PairAt (H : Hp) (t : Addr) (q : List Nat × Wr) : Prop := ∃ (a : Addr) (v : V), H t = some (.tup [.ref a, v]) ∧ PlaceT H a q.1 ∧ WA H v q.2
theorem PairAt.tk {H H' : Hp} {t : Addr} {q : List Nat × Wr} (h : PairAt H t q) (k : TupKeep H H') : PairAt H' t q := by
  obtain ⟨a, v, h1, h2, h3⟩ := h
  exact ⟨a, v, k _ _ h1, k _ _ h2, h3.mono k⟩
def WalkR (H : Hp) (ts : List Addr) (qs : List (List Nat × Wr)) : Prop := Paired (PairAt H) ts qs
theorem WalkR.tk {H H' : Hp} {ts : List Addr} {qs : List (List Nat × Wr)} (h : WalkR H ts qs) (k : TupKeep H H') : WalkR H' ts qs := TG.paired_imp (fun _ _ h => h.tk k) h
def zipW (w : Wr) (p : List Nat) : List (List Nat × Wr) := (w.pths p).zip w.subs
theorem zipW_len (w : Wr) (p : List Nat) : (zipW w p).length = w.sg := by
  unfold zipW
  rw [List.length_zip, Wr.pths_len, Wr.subs_len, Nat.min_self]
theorem zipW_of (x : Str) (b : Wr) (p : List Nat) : zipW (.of x b) p = (p, .of x b) :: zipW b (p ++ [0]) := rfl
theorem zipW_to (a b : Wr) (p : List Nat) : zipW (.to a b) p = (p, .to a b) :: (zipW a (p ++ [0]) ++ zipW b (p ++ [1])) := by
  show (p :: (a.pths (p ++ [0]) ++ b.pths (p ++ [1]))).zip (Wr.to a b :: (a.subs ++ b.subs)) = _
  rw [List.zip_cons_cons, List.zip_append (by rw [Wr.subs_len, Wr.pths_len])]
  rfl
theorem cat_place {K : PySem.W.Frag} {H : Hp} {a b : Addr} {ns ms : List Nat} {Q : VK} (ha : PlaceT H a ns) (hb : PlaceT H b ms) (hl : ns.length + ms.length ≤ 1000000) (q : ∀ (c : Addr) (G : Hp), Same H G → PlaceT G c (ns ++ ms) → Q (.ref c) G) : rCatA K (.ref a) (.ref b) H Q := by
  refine ⟨a, b, _, _, rfl, rfl, SqT.of ha, SqT.of hb, ?_, fun e => ?_, fun _ e => ?_, fun _ _ p hp => ?_⟩
  · rw [List.length_map, List.length_map]
    exact Nat.le_of_lt (small_le hl)
  · have e : ns = [] := List.map_eq_nil_iff.mp e
    subst e
    exact q b H (fun _ _ e => e) hb
  · have e : ms = [] := List.map_eq_nil_iff.mp e
    subst e
    exact q a H (fun _ _ e => e) (by rw [List.append_nil]; exact ha)
  · refine q p _ (same_new hp) ?_
    unfold PlaceT
    rw [upd_same, List.map_append]
structure WEnt where
  t : Addr
  v : V
  w : Wr
  a : Addr
  p : List Nat
def WEnt.zip (e : WEnt) : List (List Nat × Wr) := zipW e.w e.p
def wsg (s : List WEnt) : Nat := (s.map fun e => e.w.sg).sum
theorem wsg_len : ∀ s : List WEnt, s.length ≤ wsg s
  | [] => Nat.le_refl _
  | e :: s => by
    have h1 := wsg_len s
    have h2 := e.w.sg_pos
    show s.length + 1 ≤ e.w.sg + wsg s
    omega
def WOk (H : Hp) (w : Wr) (e : WEnt) : Prop := H e.t = some (.tup [.ref e.a, e.v]) ∧ WA H e.v e.w ∧ PlaceT H e.a e.p ∧ e.p.length + e.w.sg ≤ w.sg
theorem WOk.tk {H H' : Hp} {w : Wr} {e : WEnt} (h : WOk H w e) (k : TupKeep H H') : WOk H' w e := ⟨k _ _ h.1, h.2.1.mono k, k _ _ h.2.2.1, h.2.2.2⟩
abbrev sWalk : Stmt := top 45
theorem scWalk : FnScope ["writing", "left", "found", "way", "part"] ["writing"] (defScope sWalk) := ⟨rfl, rfl, rfl, by decide +kernel, rfl, by decide +kernel, by decide +kernel⟩
def spWalk : Sp := fun vs H Q _ => ∃ (v : V) (w : Wr), vs = [v] ∧ WA H v w ∧ w.sg ≤ 2000 ∧
  ∀ (l : Addr) (ts : List Addr) (H' : Hp), Same H H' → H l = none → H' l = some (.lst (ts.map V.ref)) → WalkR H' ts (zipW w []) → Q (.ref l) H'
section
variable {P : Program} {w : World} {K : PySem.W.Frag} {mg : Str → Option Value} {base : Heap} {f : Addr} {fd : FuncData}
theorem ok_walk (F : Fun K "_law_walked" "_law_walked" sWalk f fd) (T : Bn mg) : FnG P w K mg base CX0 1 f fd ["writing"] spWalk := by
  refine fun_okG F scWalk (fun vs H Q E h => ?_) (fun cdv A outer s H vs Q E hr h => ?_)
  · obtain ⟨v, w, rfl, _⟩ := h
    rfl
  obtain ⟨v, w, rfl, hw, hsg, q⟩ := h
  refine ⟨_, (pss_cons (ps_par (i := 1) (j := 2) (by rfl) scWalk.nd rfl rfl (by decide) rfl rfl (pa_cons (pe_lst (pa_cons (pe_tup (pa_cons (pe_tup pa_nil) (pa_cons (pv 0) pa_nil))) pa_nil)) (pa_cons (pe_lst pa_nil) pa_nil)) (by rfl))
      (pss_cons (ps_while PassesOwn.never (pt_cmpR (op_neL hr.units0) (pv 1) (pe_lst pa_nil) (nomark _))
        (pss_cons (ps_asg (pe_bm0 PySem.F.plainAttrs_list PySem.F.slot_list_pop PySem.F.type_list_pop mt_pop (pv 1)) (pg_tup (by rfl) (pgs_cons (pg_name (i := 3) scWalk.nd rfl (.inl rfl)) (pgs_cons (pg_name (i := 4) scWalk.nd rfl (.inl rfl)) pgs_nil))))
        (pss_cons (ps_expr (pe_bm PySem.F.plainAttrs_list PySem.F.slot_list_append PySem.F.type_list_append mt_append (pv 2) (pa_cons (pe_tup (pa_cons (pv 3) (pa_cons (pv 4) pa_nil))) pa_nil)))
        (pss_one (ps_if (pt_not (pt_val (pe_callB call_isi (by rfl) T.b_isinstance (by decide +kernel) (pa_cons (pv 4) (pa_cons (pe_bltn (v := .ty "str") (u := .type "str") (by rfl) T.b_str (by decide +kernel) rfl) pa_nil))))) (pss_cons (ps_if (pt_cmpR op_eq (pe_ix ix_tup (pv 4) pe_int (fun _ _ => rfl)) pe_str (nomark _)) (pss_one (ps_expr (pe_bm PySem.F.plainAttrs_list PySem.F.slot_list_append PySem.F.type_list_append mt_append (pv 1) (pa_cons (pe_tup (pa_cons (pe_op op_catA (pv 3) (pe_tup (pa_cons pe_int pa_nil))) (pa_cons (pe_ix ix_tup (pv 4) pe_int (fun _ _ => rfl)) pa_nil))) pa_nil)))) pss_nil)
          (pss_one (ps_expr (pe_bm PySem.F.plainAttrs_list PySem.F.slot_list_append PySem.F.type_list_append mt_append (pv 1) (pa_cons (pe_tup (pa_cons (pe_op op_catA (pv 3) (pe_tup (pa_cons pe_int pa_nil))) (pa_cons (pe_ifExp (pt_cmpR op_eq (pe_ix ix_tup (pv 4) pe_int (fun _ _ => rfl)) pe_str (nomark _)) (pe_ix ix_tup (pv 4) pe_int (fun _ _ => rfl)) (pe_ix ix_tup (pv 4) pe_int (fun _ _ => rfl))) pa_nil))) pa_nil))))) pss_nil)))))
      (pss_one (ps_ret (pv 2))))), ?_⟩
  refine ⟨Nat.zero_le _, fun R hR => ⟨_, rfl, (by show 2 ≤ sizeLine; decide), fun t0 ht0 => ⟨(by show 1 ≤ sizeLine; decide), fun L hL => ⟨Nat.zero_le _, fun Fd hF => ⟨_, _, rfl, ?_⟩⟩⟩⟩⟩
  have hL0 : H L = none := ((same_new (o := .tup []) hR).trans (same_new (o := .tup [.ref R, v]) ht0)).free hL
  have hF0 : H Fd = none := (((same_new (o := .tup []) hR).trans (same_new (o := .tup [.ref R, v]) ht0)).trans (same_new (o := .lst [.ref t0]) hL)).free hF
  have s1 : Same H (L2.upd (L2.upd (L2.upd (L2.upd H R (.tup [])) t0 (.tup [.ref R, v])) L (.lst [.ref t0])) Fd (.lst [])) := (((same_new hR).trans (same_new ht0)).trans (same_new hL)).trans (same_new hF)
  have nLF : L ≠ Fd := ne_of_none upd_same hF
  have hf1 : L2.upd (L2.upd (L2.upd (L2.upd H R (.tup [])) t0 (.tup [.ref R, v])) L (.lst [.ref t0])) Fd (.lst []) Fd = some (.lst []) := upd_same
  have hl1 : L2.upd (L2.upd (L2.upd (L2.upd H R (.tup [])) t0 (.tup [.ref R, v])) L (.lst [.ref t0])) Fd (.lst []) L = some (.lst [.ref t0]) := same_new hF _ _ upd_same
  have ht1 : L2.upd (L2.upd (L2.upd (L2.upd H R (.tup [])) t0 (.tup [.ref R, v])) L (.lst [.ref t0])) Fd (.lst []) t0 = some (.tup [.ref R, v]) := same_new hF _ _ (same_new hL _ _ upd_same)
  have hr1 : L2.upd (L2.upd (L2.upd (L2.upd H R (.tup [])) t0 (.tup [.ref R, v])) L (.lst [.ref t0])) Fd (.lst []) R = some (.tup []) := same_new hF _ _ (same_new hL _ _ (same_new ht0 _ _ upd_same))
  generalize L2.upd (L2.upd (L2.upd (L2.upd H R (.tup [])) t0 (.tup [.ref R, v])) L (.lst [.ref t0])) Fd (.lst []) = H1 at s1 hf1 hl1 ht1 hr1 ⊢
  refine ⟨fun m σ H2 => ∃ (st : List WEnt) (ts : List Addr) (qs : List (List Nat × Wr)) (v3 v4 : Option V), m = wsg st ∧ σ = [some v, some (.ref L), some (.ref Fd), v3, v4] ∧ Same H H2 ∧ H2 Fd = some (.lst (ts.map V.ref)) ∧ H2 L = some (.lst (st.reverse.map fun e => V.ref e.t)) ∧
    (∀ e ∈ st, WOk H2 w e) ∧ WalkR H2 ts qs ∧ qs ++ st.flatMap WEnt.zip = zipW w [] ∧ ts.length + wsg st ≤ w.sg, ⟨_, [⟨t0, v, w, R, []⟩], [], [], none, none, rfl, rfl, s1, hf1, hl1, ?_, .nil, ?_, ?_⟩, ?_⟩
  · intro e he
    rw [List.mem_singleton.mp he]
    exact ⟨ht1, hw.same s1, hr1, Nat.le_of_eq (Nat.zero_add _)⟩
  · show zipW w [] ++ [] = _
    rw [List.append_nil]
  · show 0 + (w.sg + 0) ≤ w.sg
    omega
  rintro m σ H2 ⟨st, ts, qs, v3, v4, rfl, rfl, s2, hf, hl, ok, hwr, hqs, hlen⟩
  refine ⟨_, rfl, Nat.zero_le _, fun l hl0 => ?_⟩
  have nLl : L ≠ l := ne_of_none hl hl0
  have nFl : Fd ≠ l := ne_of_none hf hl0
  refine ⟨L, l, _, _, rfl, rfl, SqL.of (by rw [upd_ne nLl]; exact hl), SqL.of upd_same, ?_⟩
  have s3 : Same H (L2.upd H2 l (.lst [])) := s2.trans (same_new hl0)
  cases st with
  | nil =>
    refine .inr ⟨[], .nil, _, rfl, iteF ?_⟩
    refine ⟨_, rfl, q Fd ts _ s3 hF0 (by rw [upd_ne nFl, hf]) ?_⟩
    rw [← hqs]
    show WalkR _ ts (qs ++ [])
    rw [List.append_nil]
    exact hwr.tk (.of_same (same_new hl0))
  | cons e st =>
    refine .inl ⟨by rw [List.length_map, List.length_reverse]; exact Nat.succ_ne_zero _, _, rfl, iteT ?_⟩
    refine ⟨_, fun σ' H' z => z, ?_⟩
    obtain ⟨et, ev, ew, ea, ep⟩ := e
    obtain ⟨ht, hwE, hpE, hnE⟩ := ok _ List.mem_cons_self
    simp only at ht hwE hpE hnE
    have ok2 : ∀ e' ∈ st, WOk H2 w e' := fun e' h' => ok e' (List.mem_cons_of_mem _ h')
    have hlen2 : ts.length + (ew.sg + wsg st) ≤ w.sg := hlen
    have hqs2 : qs ++ (zipW ew ep ++ st.flatMap WEnt.zip) = zipW w [] := hqs
    have eL : (List.map (fun e => V.ref e.t) (⟨et, ev, ew, ea, ep⟩ :: st : List WEnt).reverse) = st.reverse.map (fun e => V.ref e.t) ++ [.ref et] := by
      rw [List.reverse_cons, List.map_append]
      rfl
    rw [eL] at hl
    have hl1 : L2.upd H2 l (.lst []) L = some (.lst (st.reverse.map (fun e => V.ref e.t) ++ [.ref et])) := by rw [upd_ne nLl]; exact hl
    refine ⟨_, rfl, .inl ⟨rfl, _, SqL.of hl1⟩, L, _, .ref et, rfl, rfl, hl1, TG.last_snoc _ _, ?_⟩
    rw [List.dropLast_concat]
    have k3 : TupKeep H2 (L2.upd (L2.upd H2 l (.lst [])) L (.lst (st.reverse.map fun e => V.ref e.t))) := (TupKeep.of_same (same_new hl0)).trans (.put hl1)
    have s4 : Same H (L2.upd (L2.upd H2 l (.lst [])) L (.lst (st.reverse.map fun e => V.ref e.t))) := same_put s3 hL0
    have hl3 : L2.upd (L2.upd H2 l (.lst [])) L (.lst (st.reverse.map fun e => V.ref e.t)) L = some (.lst (st.reverse.map fun e => V.ref e.t)) := upd_same
    have hf3 : L2.upd (L2.upd H2 l (.lst [])) L (.lst (st.reverse.map fun e => V.ref e.t)) Fd = some (.lst (ts.map V.ref)) := by rw [upd_ne (Ne.symm nLF), upd_ne nFl]; exact hf
    generalize L2.upd (L2.upd H2 l (.lst [])) L (.lst (st.reverse.map fun e => V.ref e.t)) = H3 at k3 hl3 hf3 s4 ⊢
    refine ⟨et, _, rfl, SqT.of (k3 _ _ ht), rfl, _, _, rfl, _, _, rfl, rfl, ?_⟩
    have hw3 := hwE.mono k3
    have hp3 := hpE.tk k3
    have lyw := wsg_len st
    have epos := ew.sg_pos
    refine ⟨_, rfl, .inl ⟨rfl, _, SqL.of hf3⟩, _, rfl, _, rfl, (by show 2 ≤ sizeLine; decide), fun X hX => ?_⟩
    have x4 := same_new (o := .tup [.ref ea, ev]) hX
    refine ⟨Fd, _, _, rfl, rfl, x4 _ _ hf3, by rw [List.length_map]; exact small_le (by omega), ?_⟩
    have hf4 : L2.upd (L2.upd H3 X (.tup [.ref ea, ev])) Fd (.lst (ts.map V.ref ++ [.ref X])) Fd = some (.lst ((ts ++ [X]).map V.ref)) := by rw [upd_same, List.map_append]; rfl
    have k4 : TupKeep H3 (L2.upd (L2.upd H3 X (.tup [.ref ea, ev])) Fd (.lst (ts.map V.ref ++ [.ref X]))) := (TupKeep.of_same x4).trans (.put (x4 _ _ hf3))
    have hl4 : L2.upd (L2.upd H3 X (.tup [.ref ea, ev])) Fd (.lst (ts.map V.ref ++ [.ref X])) L = some (.lst (st.reverse.map fun e => V.ref e.t)) := by rw [upd_ne nLF]; exact x4 _ _ hl3
    have hX4 : L2.upd (L2.upd H3 X (.tup [.ref ea, ev])) Fd (.lst (ts.map V.ref ++ [.ref X])) X = some (.tup [.ref ea, ev]) := (TupKeep.put (x4 _ _ hf3)) _ _ upd_same
    have s5 := same_put (o := .lst (ts.map V.ref ++ [.ref X])) (s4.trans x4) hF0
    generalize L2.upd (L2.upd H3 X (.tup [.ref ea, ev])) Fd (.lst (ts.map V.ref ++ [.ref X])) = H4 at hf4 k4 hl4 hX4 s5 ⊢
    have k24 := k3.trans k4
    have hw4 := hw3.mono k4
    have hp4 := hp3.tk k4
    have hwr4 : WalkR H4 (ts ++ [X]) (qs ++ [(ep, ew)]) := TG.paired_snoc ⟨ea, ev, hX4, hp4, hw4⟩ (hwr.tk k24)
    have ok4 : ∀ e' ∈ st, WOk H4 w e' := fun e' h' => (ok2 e' h').tk k24
    have l5 : (ts ++ [X]).length = ts.length + 1 := by rw [List.length_append]; rfl
    clear hwr ok2 ok hw3 hp3 hwE hpE k3 k4 k24 s2 s3 s4 hf hl hl1 hf3 hl3 hX4 x4
    cases hw4 with
    | nm z =>
      refine ⟨_, rfl, _, _, _, _, true, rfl, .ty "str", .base (.str z), kit_ty rfl, _, rfl, iteF ?_⟩
      refine ⟨wsg st, ?_, st, ts ++ [X], qs ++ [(ep, .nm z)], _, _, rfl, rfl, s5, hf4, hl4, ok4, hwr4, ?_, ?_⟩
      · show wsg st < 1 + wsg st
        omega
      · rw [List.append_assoc]
        exact hqs2
      · have : ts.length + (1 + wsg st) ≤ w.sg := hlen2
        omega
    | @of a x vb b ha hb =>
      have l2 : ts.length + (b.sg + 1 + wsg st) ≤ w.sg := hlen2
      have l3 : ep.length + (b.sg + 1) ≤ w.sg := hnE
      refine ⟨_, rfl, _, _, _, _, false, rfl, .ty "str", .base (.tup ha), kit_ty rfl, _, rfl, iteT ?_⟩
      refine ⟨_, rfl, a, _, _, _, rfl, rfl, SqT.of ha, rfl, rfl, _, rfl, ?_⟩
      rw [show decide (V.str "of" = V.str "to") = false by decide +kernel]
      refine iteF ⟨_, rfl, .inl ⟨rfl, _, SqL.of hl4⟩, _, rfl, (by show 1 ≤ sizeLine; decide), fun z0 hz0 => ?_⟩
      have x5 := new_same (o := .tup [V.int 0]) hz0
      refine cat_place (ns := ep) (ms := [0]) (x5 _ _ hp4) (by unfold PlaceT; exact upd_same) (by show ep.length + 1 ≤ _; omega) fun c G sG hc => ?_
      have x6 := x5.trans sG
      refine ⟨_, rfl, a, _, _, _, rfl, rfl, SqT.of (x6 _ _ ha), rfl, rfl, _, rfl, ?_⟩
      rw [show decide (V.str "of" = V.str "to") = false by decide +kernel]
      refine iteF ⟨_, rfl, a, _, _, _, rfl, rfl, SqT.of (x6 _ _ ha), rfl, (by show 2 ≤ sizeLine; decide), fun X2 hX2 => ?_⟩
      have x7 := x6.trans (new_same (o := .tup [.ref c, vb]) hX2)
      refine ⟨L, _, _, rfl, rfl, x7 _ _ hl4, by rw [List.length_map, List.length_reverse]; exact small_le (by omega), ?_⟩
      have hX6 : L2.upd (L2.upd G X2 (.tup [.ref c, vb])) L (.lst ((st.reverse.map fun e => V.ref e.t) ++ [.ref X2])) X2 = some (.tup [.ref c, vb]) := (TupKeep.put (x7 _ _ hl4)) _ _ upd_same
      have k7 : TupKeep H4 (L2.upd (L2.upd G X2 (.tup [.ref c, vb])) L (.lst ((st.reverse.map fun e => V.ref e.t) ++ [.ref X2]))) := (TupKeep.of_same x7).trans (.put (x7 _ _ hl4))
      have s7 := same_put (o := .lst ((st.reverse.map fun e => V.ref e.t) ++ [.ref X2])) (s5.trans x7) hL0
      have hl7 : L2.upd (L2.upd G X2 (.tup [.ref c, vb])) L (.lst ((st.reverse.map fun e => V.ref e.t) ++ [.ref X2])) L = some (.lst (((⟨X2, vb, b, c, ep ++ [0]⟩ : WEnt) :: st).reverse.map fun e => V.ref e.t)) := by rw [upd_same, List.reverse_cons, List.map_append]; rfl
      have hf7 : L2.upd (L2.upd G X2 (.tup [.ref c, vb])) L (.lst ((st.reverse.map fun e => V.ref e.t) ++ [.ref X2])) Fd = some (.lst ((ts ++ [X]).map V.ref)) := by rw [upd_ne (Ne.symm nLF)]; exact x7 _ _ hf4
      have hc7 := (TupKeep.of_same (new_same (o := .tup [.ref c, vb]) hX2)).trans (.put (ys := (st.reverse.map fun e => V.ref e.t) ++ [.ref X2]) (x7 _ _ hl4)) _ _ hc
      refine ⟨wsg ((⟨X2, vb, b, c, ep ++ [0]⟩ : WEnt) :: st), ?_, (⟨X2, vb, b, c, ep ++ [0]⟩ : WEnt) :: st, ts ++ [X], qs ++ [(ep, .of x b)], _, _, rfl, rfl, s7, hf7, hl7, fun e' h' => ?_, hwr4.tk k7, ?_, ?_⟩
      · show b.sg + wsg st < b.sg + 1 + wsg st
        omega
      · rcases List.mem_cons.mp h' with rfl | h'
        · refine ⟨hX6, hb.mono k7, hc7, ?_⟩
          show (ep ++ [0]).length + b.sg ≤ w.sg
          rw [List.length_append]
          show ep.length + 1 + b.sg ≤ w.sg
          omega
        · exact (ok4 e' h').tk k7
      · rw [List.append_assoc]
        rw [zipW_of] at hqs2
        exact hqs2
      · show (ts ++ [X]).length + (b.sg + wsg st) ≤ w.sg
        omega
    | @to a va vb b c ha hb hc =>
      have l2 : ts.length + (b.sg + c.sg + 1 + wsg st) ≤ w.sg := hlen2
      have l3 : ep.length + (b.sg + c.sg + 1) ≤ w.sg := hnE
      refine ⟨_, rfl, _, _, _, _, false, rfl, .ty "str", .base (.tup ha), kit_ty rfl, _, rfl, iteT ?_⟩
      refine ⟨_, rfl, a, _, _, _, rfl, rfl, SqT.of ha, rfl, rfl, _, rfl, ?_⟩
      rw [show decide (V.str "to" = V.str "to") = true by decide +kernel]
      refine iteT ⟨_, rfl, .inl ⟨rfl, _, SqL.of hl4⟩, _, rfl, (by show 1 ≤ sizeLine; decide), fun z0 hz0 => ?_⟩
      have x5 := new_same (o := .tup [V.int 1]) hz0
      refine cat_place (ns := ep) (ms := [1]) (x5 _ _ hp4) (by unfold PlaceT; exact upd_same) (by show ep.length + 1 ≤ _; omega) fun c1 G1 sG1 hc1 => ?_
      have x6 := x5.trans sG1
      refine ⟨_, rfl, a, _, _, _, rfl, rfl, SqT.of (x6 _ _ ha), rfl, (by show 2 ≤ sizeLine; decide), fun Y hY => ?_⟩
      have x7 := x6.trans (new_same (o := .tup [.ref c1, vb]) hY)
      refine ⟨L, _, _, rfl, rfl, x7 _ _ hl4, by rw [List.length_map, List.length_reverse]; exact small_le (by omega), ?_⟩
      have hX6 : L2.upd (L2.upd G1 Y (.tup [.ref c1, vb])) L (.lst ((st.reverse.map fun e => V.ref e.t) ++ [.ref Y])) Y = some (.tup [.ref c1, vb]) := (TupKeep.put (x7 _ _ hl4)) _ _ upd_same
      have k7 : TupKeep H4 (L2.upd (L2.upd G1 Y (.tup [.ref c1, vb])) L (.lst ((st.reverse.map fun e => V.ref e.t) ++ [.ref Y]))) := (TupKeep.of_same x7).trans (.put (x7 _ _ hl4))
      have s7 := same_put (o := .lst ((st.reverse.map fun e => V.ref e.t) ++ [.ref Y])) (s5.trans x7) hL0
      have hl7 : L2.upd (L2.upd G1 Y (.tup [.ref c1, vb])) L (.lst ((st.reverse.map fun e => V.ref e.t) ++ [.ref Y])) L = some (.lst (((⟨Y, vb, c, c1, ep ++ [1]⟩ : WEnt) :: st).reverse.map fun e => V.ref e.t)) := by rw [upd_same, List.reverse_cons, List.map_append]; rfl
      have hf7 : L2.upd (L2.upd G1 Y (.tup [.ref c1, vb])) L (.lst ((st.reverse.map fun e => V.ref e.t) ++ [.ref Y])) Fd = some (.lst ((ts ++ [X]).map V.ref)) := by rw [upd_ne (Ne.symm nLF)]; exact x7 _ _ hf4
      have hc7 := (TupKeep.of_same (new_same (o := .tup [.ref c1, vb]) hY)).trans (.put (ys := (st.reverse.map fun e => V.ref e.t) ++ [.ref Y]) (x7 _ _ hl4)) _ _ hc1
      generalize L2.upd (L2.upd G1 Y (.tup [.ref c1, vb])) L (.lst ((st.reverse.map fun e => V.ref e.t) ++ [.ref Y])) = H5 at hX6 k7 s7 hl7 hf7 hc7 ⊢
      clear x5 x6 x7 sG1 hc1
      have ha5 := k7 _ _ ha
      have hp5 := PlaceT.tk hp4 k7
      refine ⟨_, rfl, .inl ⟨rfl, _, SqL.of hl7⟩, _, rfl, (by show 1 ≤ sizeLine; decide), fun z1 hz1 => ?_⟩
      have x5 := new_same (o := .tup [V.int 0]) hz1
      refine cat_place (ns := ep) (ms := [0]) (x5 _ _ hp5) (by unfold PlaceT; exact upd_same) (by show ep.length + 1 ≤ _; omega) fun c2 G sG hc2 => ?_
      have x6 := x5.trans sG
      refine ⟨_, rfl, a, _, _, _, rfl, rfl, SqT.of (x6 _ _ ha5), rfl, rfl, _, rfl, ?_⟩
      rw [show decide (V.str "to" = V.str "to") = true by decide +kernel]
      refine iteT ⟨_, rfl, a, _, _, _, rfl, rfl, SqT.of (x6 _ _ ha5), rfl, (by show 2 ≤ sizeLine; decide), fun X2 hX2 => ?_⟩
      have x7 := x6.trans (new_same (o := .tup [.ref c2, va]) hX2)
      refine ⟨L, _, _, rfl, rfl, x7 _ _ hl7, by rw [List.length_map, List.length_reverse]; exact small_le (show st.length + 1 ≤ 1000000 by omega), ?_⟩
      have hX8 : L2.upd (L2.upd G X2 (.tup [.ref c2, va])) L (.lst ((((⟨Y, vb, c, c1, ep ++ [1]⟩ : WEnt) :: st).reverse.map fun e => V.ref e.t) ++ [.ref X2])) X2 = some (.tup [.ref c2, va]) := (TupKeep.put (x7 _ _ hl7)) _ _ upd_same
      have k8 : TupKeep H5 (L2.upd (L2.upd G X2 (.tup [.ref c2, va])) L (.lst ((((⟨Y, vb, c, c1, ep ++ [1]⟩ : WEnt) :: st).reverse.map fun e => V.ref e.t) ++ [.ref X2]))) := (TupKeep.of_same x7).trans (.put (x7 _ _ hl7))
      have s8 := same_put (o := .lst ((((⟨Y, vb, c, c1, ep ++ [1]⟩ : WEnt) :: st).reverse.map fun e => V.ref e.t) ++ [.ref X2])) (s7.trans x7) hL0
      have hl8 : L2.upd (L2.upd G X2 (.tup [.ref c2, va])) L (.lst ((((⟨Y, vb, c, c1, ep ++ [1]⟩ : WEnt) :: st).reverse.map fun e => V.ref e.t) ++ [.ref X2])) L = some (.lst (((⟨X2, va, b, c2, ep ++ [0]⟩ : WEnt) :: (⟨Y, vb, c, c1, ep ++ [1]⟩ : WEnt) :: st).reverse.map fun e => V.ref e.t)) := by rw [upd_same, List.reverse_cons (as := (⟨Y, vb, c, c1, ep ++ [1]⟩ : WEnt) :: st), List.map_append]; rfl
      have hf8 : L2.upd (L2.upd G X2 (.tup [.ref c2, va])) L (.lst ((((⟨Y, vb, c, c1, ep ++ [1]⟩ : WEnt) :: st).reverse.map fun e => V.ref e.t) ++ [.ref X2])) Fd = some (.lst ((ts ++ [X]).map V.ref)) := by rw [upd_ne (Ne.symm nLF)]; exact x7 _ _ hf7
      have hc8 := (TupKeep.of_same (new_same (o := .tup [.ref c2, va]) hX2)).trans (.put (ys := (((⟨Y, vb, c, c1, ep ++ [1]⟩ : WEnt) :: st).reverse.map fun e => V.ref e.t) ++ [.ref X2]) (x7 _ _ hl7)) _ _ hc2
      have k9 := k7.trans k8
      refine ⟨wsg ((⟨X2, va, b, c2, ep ++ [0]⟩ : WEnt) :: (⟨Y, vb, c, c1, ep ++ [1]⟩ : WEnt) :: st), ?_, (⟨X2, va, b, c2, ep ++ [0]⟩ : WEnt) :: (⟨Y, vb, c, c1, ep ++ [1]⟩ : WEnt) :: st, ts ++ [X], qs ++ [(ep, .to b c)], _, _, rfl, rfl, s8, hf8, hl8, fun e' h' => ?_, hwr4.tk k9, ?_, ?_⟩
      · show b.sg + (c.sg + wsg st) < b.sg + c.sg + 1 + wsg st
        omega
      · rcases List.mem_cons.mp h' with rfl | h'
        · refine ⟨hX8, hb.mono k9, hc8, ?_⟩
          show (ep ++ [0]).length + b.sg ≤ w.sg
          rw [List.length_append]
          show ep.length + 1 + b.sg ≤ w.sg
          omega
        rcases List.mem_cons.mp h' with rfl | h'
        · refine ⟨k8 _ _ hX6, hc.mono k9, k8 _ _ hc7, ?_⟩
          show (ep ++ [1]).length + c.sg ≤ w.sg
          rw [List.length_append]
          show ep.length + 1 + c.sg ≤ w.sg
          omega
        · exact (ok4 e' h').tk k9
      · rw [List.append_assoc]
        rw [zipW_to, List.cons_append, List.append_assoc] at hqs2
        exact hqs2
      · show (ts ++ [X]).length + (b.sg + (c.sg + wsg st)) ≤ w.sg
        omega
end
end TF07
set_option maxHeartbeats 400000
namespace TF07
open PySem PySem.Spec L2 TG TA
open PyProof.Rows hiding St
/-! ### a part put at a place, by the law's own making -/
abbrev sWth : Stmt := top 46
theorem scWth : FnScope ["writing", "way", "part", "at"] ["writing", "way", "part"] (defScope sWth) := ⟨rfl, rfl, rfl, by decide +kernel, rfl, by decide +kernel, by decide +kernel⟩
def spWth (n : Nat) : Sp := fun vs H Q _ => ∃ (v : V) (pa : Addr) (u : V) (w t s : Wr) (p : List Nat), vs = [v, .ref pa, u] ∧ WA H v w ∧ PlaceT H pa p ∧ WA H u t ∧ atP w p = some s ∧ p.length < n ∧ ∀ (v' : V) (H' : Hp), Same H H' → WA H' v' (repP t w p) → Q v' H'
section
variable {P : Program} {w : World} {K : PySem.W.Frag} {mg : Str → Option Value} {base : Heap} {f : Addr} {fd : FuncData}
theorem ok_wth (F : Fun K "_law_with" "_law_with" sWth f fd) (T : Bn mg) (D__law_with : Df K mg "_law_with" sWth f fd ["writing", "way", "part"]) : ∀ n : Nat, FnG P w K mg base CX0 (n + 1) f fd ["writing", "way", "part"] (spWth n) := by
  intro n
  induction n with
  | zero =>
    refine fun_okG F scWth (fun vs H Q E h => ?_) (fun cdv A outer s H vs Q E hr h => ?_)
    · obtain ⟨v, pa, u, w, t, s, p, rfl, _⟩ := h
      rfl
    obtain ⟨v, pa, u, w, t, s, p, rfl, _, _, _, _, h1, _⟩ := h
    exact absurd h1 (Nat.not_lt_zero _)
  | succ n G__law_with =>
  refine fun_okG F scWth (fun vs H Q E h => ?_) (fun cdv A outer s H vs Q E hr h => ?_)
  · obtain ⟨v, pa, u, w, t, s, p, rfl, _⟩ := h
    rfl
  obtain ⟨v, pa, u, w, t, s', p, rfl, hw, hp, hu, hat, hn, q⟩ := h
  refine ⟨_, (pss_cons (ps_if (pt_cmpR (op_eqD hr.units) (pv 1) (pe_tup pa_nil) (nomark _)) (pss_one (ps_ret (pv 2))) pss_nil)
      (pss_cons (ps_set (i := 3) scWth.nd rfl (.inl rfl) (pe_ifExp (pt_cmpR op_eq (pe_ix ix_tup (pv 0) pe_int (fun _ _ => rfl)) pe_str (nomark _)) pe_int (pe_op op_add pe_int (pe_ix ix_tup (pv 1) pe_int (fun _ _ => rfl)))))
      (pss_one (ps_ret (pe_op op_catA (pe_op op_catA (pe_slice sl_tupA (pv 0) po_none (po_some (pv 3))) (pe_tup (pa_cons (pe_cg D__law_with G__law_with hr (by omega) (pa_cons (pe_ix ix_tup (pv 0) (pv 3) (fun _ _ => rfl)) (pa_cons (pe_slice sl_tupA (pv 1) (po_some pe_int) po_none) (pa_cons (pv 2) pa_nil)))) pa_nil))) (pe_slice sl_tupA (pv 0) (po_some (pe_op op_add (pv 3) pe_int)) po_none)))))), ?_⟩
  refine ⟨_, rfl, (by show 0 ≤ sizeLine; exact Nat.zero_le _), fun e0 he0 => ?_⟩
  have x1 := new_same (o := .tup []) he0
  have hp1 : PlaceT (L2.upd H e0 (.tup [])) pa p := x1 _ _ hp
  have shp : SeqAt.shaped (plD p) = true := by
    obtain ⟨y1, y2⟩ := pl_lay p
    unfold SeqAt.shaped
    rw [y1, decide_eq_true (by omega : (plD p).depth ≤ 64)]
    rfl
  refine ⟨_, _, place_dp hp1, .tup (SqT.of upd_same) .nil, shp, rfl, ?_⟩
  rw [show PyData.eqv (plD p) (.tuple []) = decide (p = []) from by cases p <;> rfl]
  generalize L2.upd H e0 (.tup []) = H1 at x1 hp1 ⊢
  have hw1 := hw.same x1
  have hu1 := hu.same x1
  refine ⟨_, rfl, ?_⟩
  cases p with
  | nil =>
    rw [decide_eq_true rfl]
    refine iteT ⟨_, rfl, q _ _ x1 ?_⟩
    rw [repP_nil]
    exact hu1
  | cons n0 ns =>
    rw [decide_eq_false (List.cons_ne_nil _ _)]
    refine iteF ?_
    have ecut : cutV ((n0 :: ns).map fun n => V.int ((n : Nat) : Int)) (some 1) none = ns.map fun n => V.int ((n : Nat) : Int) := (cut_from ((n0 :: ns).map fun n => V.int ((n : Nat) : Int)) 1 (Nat.succ_le_succ (Nat.zero_le _))).trans rfl
    have len : ((n0 :: ns).map fun n => V.int ((n : Nat) : Int)).length = ns.length + 1 := List.length_map _
    have notAll : HT.sIx ((n0 :: ns).map fun n => V.int ((n : Nat) : Int)).length 0 (some 1) = 0 ∧ HT.sIx ((n0 :: ns).map fun n => V.int ((n : Nat) : Int)).length ((n0 :: ns).map fun n => V.int ((n : Nat) : Int)).length none = ((n0 :: ns).map fun n => V.int ((n : Nat) : Int)).length → False := fun z => by
      have z1 := z.1
      rw [len, show ((1 : Int)) = ((1 : Nat) : Int) from rfl, HT.sIx_nat] at z1
      omega
    have tail : ∀ {G : Hp} {p : Addr}, PlaceT (L2.upd G p (.tup (cutV ((n0 :: ns).map fun n => V.int ((n : Nat) : Int)) (some 1) none))) p ns := fun {G p} => by
      unfold PlaceT
      rw [upd_same, ecut]
    have ln : ns.length < n := by have : ns.length + 1 < n + 1 := hn; omega
    have fin : ∀ (a : Addr) (x0 x1 x2 xc : V) (k : Nat) (wc : Wr), H1 a = some (.tup [x0, x1, x2]) → ((k = 1 ∧ xc = x1) ∨ (k = 2 ∧ xc = x2)) → WA H1 xc wc → atP wc ns = some s' →
        (∀ (v1 : V) (c : Addr) (G G' : Hp), Same H1 G → WA G v1 (repP t wc ns) → Same G G' → G' c = some (.tup ([x0, x1, x2].set k v1)) → Q (.ref c) G') →
        tRet (tOp (rCatA K) (tOp (rCatA K) (tSl (rSlA K) (tVar 0) tNoPart (tPart (tVar 3))) (tTup (tCons (tCall (spWth n) [] E0 (tCons (tOp (rIxT K) (tVar 0) (tVar 3)) (tCons (tSl (rSlA K) (tVar 1) (tPart (tC (V.int 1))) tNoPart) (tCons (tVar 2) tNil)))) tNil))) (tSl (rSlA K) (tVar 0) (tPart (tOp (rI0 fun i j => V.int (i + j)) (tVar 3) (tC (V.int 1)))) tNoPart))
          { nx := fun x H' => Q V.non H', rt := Q } [some (.ref a), some (.ref pa), some u, some (.int (k : Int))] H1 := by
      intro a x0 x1' x2 xc k wc ha hk hwc hatc qq
      have three : [x0, x1', x2].length = 3 := rfl
      refine ⟨_, rfl, _, rfl, _, rfl, a, _, rfl, SqT.of ha, fun z => ?_, fun _ p1 hp1' => ?_⟩
      · have z2 := z.2
        rw [HT.sIx_nat, three] at z2
        rcases hk with ⟨rfl, _⟩ | ⟨rfl, _⟩ <;> exact absurd z2 (by decide)
      rw [cut_to _ k (by rw [three]; rcases hk with ⟨rfl, _⟩ | ⟨rfl, _⟩ <;> decide)] at *
      have y1 := new_same (o := .tup ([x0, x1', x2].take k)) hp1'
      have hpre : L2.upd H1 p1 (.tup ([x0, x1', x2].take k)) p1 = some (.tup ([x0, x1', x2].take k)) := upd_same
      generalize L2.upd H1 p1 (.tup ([x0, x1', x2].take k)) = H2 at y1 hpre ⊢
      refine ⟨_, rfl, _, rfl, a, _, _, xc, rfl, rfl, SqT.of (y1 _ _ ha), atI_nat (j := k) ?_, _, rfl, _, rfl, pa, _, rfl, SqT.of (y1 _ _ hp1), fun z => (notAll z).elim, fun _ p2 hp2 => ?_⟩
      · rcases hk with ⟨rfl, rfl⟩ | ⟨rfl, rfl⟩ <;> rfl
      have y2 := new_same (o := .tup (cutV ((n0 :: ns).map fun n => V.int ((n : Nat) : Int)) (some 1) none)) hp2
      refine ⟨_, rfl, xc, p2, u, wc, t, s', ns, rfl, (hwc.same y1).same y2, tail, (hu1.same y1).same y2, hatc, ln, fun v1 G s1 h1 => ⟨(by show 1 ≤ sizeLine; decide), fun t1 ht1 => ?_⟩⟩
      have y3 := new_same (o := .tup [v1]) ht1
      have y13 := y2.trans (s1.trans y3)
      have lt : ([x0, x1', x2].take k).length ≤ 3 := by rw [← three]; exact List.length_take_le' _ _
      refine ⟨p1, t1, _, _, rfl, rfl, SqT.of (y13 _ _ hpre), SqT.of upd_same, Nat.le_of_lt (small_le (show _ + 1 ≤ 1000000 by omega)), fun e => ?_, fun _ e => absurd e (List.cons_ne_nil _ _), fun _ _ c1 hc1 => ?_⟩
      · rcases hk with ⟨rfl, _⟩ | ⟨rfl, _⟩ <;> exact absurd e (List.cons_ne_nil _ _)
      have y4 := new_same (o := .tup ([x0, x1', x2].take k ++ [v1])) hc1
      have y14 := y1.trans (y13.trans y4)
      refine ⟨_, rfl, _, rfl, _, _, rfl, rfl, _, rfl, a, _, rfl, SqT.of (y14 _ _ ha), fun z => ?_, fun _ p3 hp3 => ?_⟩
      · have z1 := z.1
        try dsimp only at z1
        rw [show ((k : Int) + 1) = ((k + 1 : Nat) : Int) by omega, HT.sIx_nat, three] at z1
        rcases hk with ⟨rfl, _⟩ | ⟨rfl, _⟩ <;> exact absurd z1 (by decide)
      try dsimp only at hp3 ⊢
      rw [show ((k : Int) + 1) = ((k + 1 : Nat) : Int) by omega, cut_from _ (k + 1) (by rw [three]; rcases hk with ⟨rfl, _⟩ | ⟨rfl, _⟩ <;> decide)]
      have y5 := new_same (o := .tup ([x0, x1', x2].drop (k + 1))) hp3
      have ld : ([x0, x1', x2].drop (k + 1)).length ≤ 3 := by rw [List.length_drop, three]; omega
      have hc15 := y5 _ _ (show L2.upd _ c1 (.tup ([x0, x1', x2].take k ++ [v1])) c1 = _ from upd_same)
      have eset : ([x0, x1', x2].take k ++ [v1]) ++ [x0, x1', x2].drop (k + 1) = [x0, x1', x2].set k v1 := by
        rcases hk with ⟨rfl, _⟩ | ⟨rfl, _⟩ <;> rfl
      refine ⟨c1, p3, _, _, rfl, rfl, SqT.of hc15, SqT.of upd_same, ?_, fun e => ?_, fun _ e => ?_, fun _ _ c2 hc2 => ?_⟩
      · rw [List.length_append]
        exact Nat.le_of_lt (small_le (show _ + 1 + _ ≤ 1000000 by omega))
      · exact absurd e (by simp)
      · refine qq v1 c1 _ _ (y1.trans (y2.trans s1)) h1 (y3.trans (y4.trans y5)) ?_
        have ee := eset
        rw [e, List.append_nil] at ee
        rw [← ee]
        exact hc15
      · refine qq v1 c2 _ _ (y1.trans (y2.trans s1)) h1 (y3.trans (y4.trans (y5.trans (new_same hc2)))) ?_
        rw [upd_same, eset]
    cases hw1 with
    | nm z => simp [atP] at hat
    | @of a x vb b ha hb =>
      refine ⟨_, rfl, a, _, _, _, rfl, rfl, SqT.of ha, rfl, rfl, _, rfl, ?_⟩
      refine ite2 (fun _ => ?_) (fun z => absurd (decide_eq_true rfl) z)
      match n0, hat, q, fin with
      | n0 + 1, hat, q, _ => simp [atP] at hat
      | 0, hat, q, fin =>
      refine fin a _ _ _ vb 2 b ha (.inr ⟨rfl, rfl⟩) hb hat fun v1 c G G' s1 h1 s2 hc => q _ _ (x1.trans (s1.trans s2)) ?_
      exact .of hc (h1.same s2)
    | @to a va vb b c ha hb hc =>
      refine ⟨_, rfl, a, _, _, _, rfl, rfl, SqT.of ha, rfl, rfl, _, rfl, ?_⟩
      rw [show decide (V.str "to" = V.str "of") = false by decide +kernel]
      refine iteF ⟨_, rfl, pa, _, _, .int ((n0 : Nat) : Int), rfl, rfl, SqT.of hp1, atI_nat (j := 0) rfl, _, _, rfl, rfl, ?_⟩
      match n0, hat, q, fin with
      | n0 + 2, hat, q, _ => simp [atP] at hat
      | 0, hat, q, fin =>
        refine fin a _ _ _ va 1 b ha (.inl ⟨rfl, rfl⟩) hb hat fun v1 c' G G' s1 h1 s2 hc' => q _ _ (x1.trans (s1.trans s2)) ?_
        exact .to hc' (h1.same s2) (hc.same (s1.trans s2))
      | 1, hat, q, fin =>
        refine fin a _ _ _ vb 2 c ha (.inr ⟨rfl, rfl⟩) hc hat fun v1 c' G G' s1 h1 s2 hc' => q _ _ (x1.trans (s1.trans s2)) ?_
        exact .to hc' (hb.same (s1.trans s2)) (h1.same s2)
end
end TF07
set_option maxHeartbeats 400000
namespace TF07
open PySem PySem.Spec L2 TG TA
open PyProof.Rows hiding St
section
variable {X : Cx} {k j : Nat} {f : Addr} {fd : FuncData} {ps ks : List Str} {sp : Sp} {x : Str} {st : Stmt} {p pos : Pos} {kws : List Keyword} {tk : TA} {g : List Value → List Value → List Value} {gV : List V → List V → List V}
/-- f(k = v, ..) -/
theorem pe_cgk0 (D : Df X.K X.mg x st f fd ps) (F : FnG X.prog X.w X.K X.mg X.base CX0 k f fd ps sp) (B : KBn X.K fd ps 0 ks g gV) (hr : RoomG j X.A) (hj : k ≤ j) (hkw : PK X kws tk) (hg : Gl X x := by rfl)
    (hall : (backToKw pos (keywordEach kws X.env)).all (·.1.isSome) = true := by rfl) (hks : (backToKw pos (keywordEach kws X.env)).filterMap (·.1) = ks := by rfl)
    (hdb : (x == ("__debug__" : Str)) = false := by decide) (hpl : ((backTo pos (starEach [] X.env)).any (·.1) || (backToKw pos (keywordEach kws X.env)).any (·.1.isNone)) = false := by rfl) :
    PE X (.Call (.Name x p) [] kws pos) (tCallN 0 ks.length sp gV E0 tNil tk) := by
  refine ⟨fun pins s σ H Q I h => ?_⟩
  refine wpAny_Call_Name_kw (ld_glob I hg D.m ?_ hdb)
  refine PySem.W.callWith_KW0 (h₀ := X.base) I.ok.mod.kin D.F.kp hall ?_ hpl
  refine thn (hkw.run pos pins s σ H _ I h) fun ws s2 ⟨zs, H2, I2, rz, l1, l2, q2⟩ => ⟨I2.kIn, ?_⟩
  rw [hks]
  exact run_fnG (us := []) (vs := []) F (hr.mono hj) B pass0 I2 .nil rz rfl (rz.length.symm.trans l2) q2
end
/-! ### a part at a place -/
theorem at_ok {q : Str → Bool} : ∀ {p : List Nat} {w s : Wr}, atP w p = some s → w.all q = true → s.all q = true
  | [], w, s, h, e => by
    rw [atP_nil] at h
    cases h
    exact e
  | 0 :: p, .of x b, s, h, e => at_ok (w := b) h (Bool.and_eq_true_iff.mp (show (q x && b.all q) = true from e)).2
  | 0 :: p, .to a b, s, h, e => at_ok (w := a) h (Bool.and_eq_true_iff.mp (show (a.all q && b.all q) = true from e)).1
  | 1 :: p, .to a b, s, h, e => at_ok (w := b) h (Bool.and_eq_true_iff.mp (show (a.all q && b.all q) = true from e)).2
  | _ :: _, .nm _, _, h, _ => by simp [atP] at h
  | (n + 1) :: _, .of _ _, _, h, _ => by simp [atP] at h
  | (n + 2) :: _, .to _ _, _, h, _ => by simp [atP] at h
theorem at_sz : ∀ {p : List Nat} {w s : Wr}, atP w p = some s → s.sg ≤ w.sg ∧ s.ly + p.length ≤ w.ly
  | [], w, s, h => by
    rw [atP_nil] at h
    cases h
    exact ⟨Nat.le_refl _, Nat.le_refl _⟩
  | 0 :: p, .of x b, s, h => by
    obtain ⟨h1, h2⟩ := at_sz (w := b) h
    show s.sg ≤ b.sg + 1 ∧ s.ly + (p.length + 1) ≤ b.ly + 1
    omega
  | 0 :: p, .to a b, s, h => by
    obtain ⟨h1, h2⟩ := at_sz (w := a) h
    show s.sg ≤ a.sg + b.sg + 1 ∧ s.ly + (p.length + 1) ≤ max a.ly b.ly + 1
    omega
  | 1 :: p, .to a b, s, h => by
    obtain ⟨h1, h2⟩ := at_sz (w := b) h
    show s.sg ≤ a.sg + b.sg + 1 ∧ s.ly + (p.length + 1) ≤ max a.ly b.ly + 1
    omega
  | _ :: _, .nm _, _, h => by simp [atP] at h
  | (n + 1) :: _, .of _ _, _, h => by simp [atP] at h
  | (n + 2) :: _, .to _ _, _, h => by simp [atP] at h
theorem nms_all {q : Str → Bool} : ∀ {w : Wr}, w.all q = true → ∀ z ∈ w.fr, q z = true
  | .nm y, h, z, hz => by
    rw [List.mem_singleton.mp hz]
    exact h
  | .of x b, h, z, hz => nms_all (Bool.and_eq_true_iff.mp (show (q x && b.all q) = true from h)).2 z ((List.mem_filter.mp hz).1)
  | .to a b, h, z, hz => by
    obtain ⟨h1, h2⟩ := Bool.and_eq_true_iff.mp (show (a.all q && b.all q) = true from h)
    rcases List.mem_append.mp hz with hz | hz
    · exact nms_all h1 z hz
    · exact nms_all h2 z ((List.mem_filter.mp hz).1)
theorem nms_self (l : List Str) : PyData.eqv (nmsD l) (nmsD l) = true := by
  show PyData.eqvAll (l.map PyData.str) (l.map PyData.str) = true
  induction l with
  | nil => rfl
  | cons z l ih =>
    show ((z == z) && _) = true
    rw [beq_self_eq_true]
    exact ih
theorem pl_eqv : ∀ a b : List Nat, PyData.eqv (plD a) (plD b) = decide (a = b) := by
  intro a b
  show PyData.eqvAll (a.map fun n => PyData.int ((n : Nat) : Int)) (b.map fun n => PyData.int ((n : Nat) : Int)) = _
  induction a generalizing b with
  | nil => cases b <;> rfl
  | cons n a ih =>
    cases b with
    | nil => rfl
    | cons m b =>
      show (decide (((n : Nat) : Int) = ((m : Nat) : Int)) && _) = _
      rw [ih b]
      by_cases e : n = m
      · subst e
        rw [decide_eq_true rfl, Bool.true_and]
        exact decide_eq_decide.mpr ⟨fun h => by rw [h], fun h => (List.cons.inj h).2⟩
      · rw [decide_eq_false (by omega), Bool.false_and]
        exact (decide_eq_false fun h => e (List.cons.inj h).1).symm
theorem pl_shaped (ns : List Nat) : SeqAt.shaped (plD ns) = true := by
  obtain ⟨y1, y2⟩ := pl_lay ns
  unfold SeqAt.shaped
  rw [y1, decide_eq_true (by omega : (plD ns).depth ≤ 64)]
  rfl
theorem plsL_shaped (ps : List (List Nat)) : SeqAt.shaped (.list (ps.map plD)) = true := pls_shaped ps
theorem plsL_self (ps : List (List Nat)) : PyData.eqv (.list (ps.map plD)) (.list (ps.map plD)) = true := by
  show PyData.eqvAll (ps.map plD) (ps.map plD) = true
  induction ps with
  | nil => rfl
  | cons ns ps ih =>
    show (PyData.eqv (plD ns) (plD ns) && _) = true
    rw [pl_eqv, decide_eq_true rfl]
    exact ih
theorem sl_place {K : PySem.W.Frag} {H : Hp} {a : Addr} {ns : List Nat} {k : Nat} {Q : VK} (ha : PlaceT H a ns) (q : ∀ (c : Addr) (G : Hp), Same H G → PlaceT G c (ns.take k) → Q (.ref c) G) : rSlA K (.ref a) none (some (k : Int)) H Q := by
  refine ⟨a, _, rfl, SqT.of ha, fun z => ?_, fun _ p hp => ?_⟩
  · have z2 := z.2
    rw [HT.sIx_nat, List.length_map] at z2
    refine q a H (fun _ _ e => e) ?_
    rw [List.take_of_length_le (by omega)]
    exact ha
  · refine q p _ (same_new hp) ?_
    unfold PlaceT
    rw [upd_same]
    unfold cutV
    rw [HT.sIx_none, HT.sIx_nat, List.drop_zero, Nat.sub_zero, List.length_map, List.map_take]
    by_cases c : k ≤ ns.length
    · rw [Nat.min_eq_left c]
    · rw [Nat.min_eq_right (by omega), List.take_of_length_le (by rw [List.length_map]; exact Nat.le_refl _), List.take_of_length_le (by rw [List.length_map]; omega)]
def kOf (H : Hp) (a : Addr) : List Int := match H a with
  | some (.tup vs) => vs.map fun v => match v with | .int i => i | _ => 0
  | _ => []
theorem kOf_place {H : Hp} {a : Addr} {ns : List Nat} (h : PlaceT H a ns) : kOf H a = kI ns := by
  unfold kOf
  rw [h]
  show (ns.map fun n => V.int ((n : Nat) : Int)).map _ = _
  rw [List.map_map]
  rfl
theorem kOf_tups {H : Hp} {as : List Addr} {ps : List (List Nat)} (h : TupsN H as ps) : as.map (kOf H) = ps.map kI := by
  unfold TupsN at h
  induction h with
  | nil => rfl
  | cons a _ ih => rw [List.map_cons, List.map_cons, ih, kOf_place a]
theorem tups_mem {H : Hp} {as : List Addr} {ps : List (List Nat)} (h : TupsN H as ps) {a : Addr} (ha : a ∈ as) : ∃ ns, PlaceT H a ns := by
  obtain ⟨i, hi⟩ := List.mem_iff_getElem?.mp ha
  obtain ⟨ns, _, hp⟩ := TG.paired_get h hi
  exact ⟨ns, hp⟩
theorem TupsN.tk {H H' : Hp} {as : List Addr} {ps : List (List Nat)} (h : TupsN H as ps) (k : TupKeep H H') : TupsN H' as ps := TG.paired_imp (fun _ _ h => k _ _ h) h
theorem zip_fst (w : Wr) : (zipW w []).map Prod.fst = w.pths [] := by
  unfold zipW
  rw [List.map_fst_zip]
  rw [Wr.pths_len, Wr.subs_len]
  exact Nat.le_refl _
theorem dp_refs {K : PySem.W.Frag} {H : Hp} {as : List Addr} {ps : List (List Nat)} (h : TupsN H as ps) : DpAll K H (as.map V.ref) (ps.map plD) := by
  unfold TupsN at h
  induction h with
  | nil => exact .nil
  | cons a _ ih => exact .cons (place_dp a) ih
theorem dp_sorted {K : PySem.W.Frag} {H : Hp} (H0 : Hp) (s : Same H0 H) : ∀ {ts : List Addr} {ps : List (List Nat)}, (∀ a ∈ ts, ∃ ns, PlaceT H0 a ns) → ts.map (kOf H0) = ps.map kI → DpAll K H (ts.map V.ref) (ps.map plD)
  | [], [], _, _ => .nil
  | [], _ :: _, _, h => by cases h
  | _ :: _, [], _, h => by cases h
  | a :: ts, p :: ps, h, e => by
    rw [List.map_cons, List.map_cons] at e
    injection e with e1 e2
    obtain ⟨ns, hp⟩ := h a List.mem_cons_self
    rw [kOf_place hp] at e1
    have en : ns = p := by
      have := congrArg (List.map Int.toNat) e1
      unfold kI at this
      rw [List.map_map, List.map_map] at this
      have idn : ∀ l : List Nat, l.map (Int.toNat ∘ fun n => ((n : Nat) : Int)) = l := fun l => by
        induction l with
        | nil => rfl
        | cons x l ih => rw [List.map_cons, ih]; rfl
      rw [idn, idn] at this
      exact this
    rw [en] at hp
    exact .cons (place_dp (s _ _ hp)) (dp_sorted H0 s (fun b hb => h b (List.mem_cons_of_mem _ hb)) e2)
def rLenS (K : PySem.W.Frag) : List V → Hp → VK → Prop := fun xs H Q => ∃ p ys, xs = [V.ref p] ∧ (SqL K H p ys ∨ SqT K H p ys) ∧ Q (.int ys.length) H
abbrev sPRt : Stmt := top 47
theorem scPRt : FnScope ["chest", "writing", "way", "part", "due", "told", "ways", "each", "its"] ["chest", "writing", "way", "part"] (defScope sPRt) := ⟨rfl, rfl, rfl, by decide +kernel, rfl, by decide +kernel, by decide +kernel⟩
def spPRt : Sp := fun vs H Q _ => ∃ (ch v : V) (pa : Addr) (u : V) (w t s : Wr) (p : List Nat), vs = [ch, v, .ref pa, u] ∧ WA H v w ∧ w.all okN = true ∧ w.sg ≤ 200 ∧ w.ly ≤ 30 ∧ WA H u t ∧ t.all okN = true ∧ t.sg ≤ 10 ∧ PlaceT H pa p ∧ atP w p = some s ∧ ∀ (H' : Hp), Same H H' → Q (.bl true) H'
section
variable {P : Program} {w : World} {K : PySem.W.Frag} {mg : Str → Option Value} {base : Heap} {f f1 f2 f3 f4 f5 f6 f7 f8 : Addr} {fd d1 d2 d3 d4 d5 d6 d7 d8 : FuncData} {k1 k2 k3 k4 n : Nat}
theorem ok_PRt (hn : k1 ≤ n ∧ k2 ≤ n ∧ k3 ≤ n ∧ k4 ≤ n ∧ 201 ≤ n) (F : Fun K "_law_part_right" "_law_part_right" sPRt f fd) (T : Bn mg)
    (D_with_part : Df K mg "with_part" sWith f1 d1 ["writing", "place", "part"]) (G_with_part : FnG P w K mg base CX0 k1 f1 d1 ["writing", "place", "part"] (spWith K)) (B_with_part : KBn K d1 ["writing", "place", "part"] 0 ["part", "place", "writing"] (fun us ws => us ++ ws.reverse) (fun vs zs => vs ++ zs.reverse))
    (D_part_at : Df K mg "part_at" sPartAt f2 d2 ["writing", "place"]) (G_part_at : FnG P w K mg base CX0 k2 f2 d2 ["writing", "place"] (spPartAt K))
    (D_places_of : Df K mg "places_of" sPlOf f3 d3 ["writing"]) (G_places_of : FnG P w K mg base CX0 k3 f3 d3 ["writing"] (spPlOf K))
    (D_free_names : Df K mg "free_names" sFN f4 d4 ["writing"]) (G_free_names : FnG P w K mg base CX0 k4 f4 d4 ["writing"] (spFree K))
    (D__law_listed : Df K mg "_law_listed" sListed f5 d5 ["value"]) (G__law_listed : FnG P w K mg base CX0 201 f5 d5 ["value"] (spListed 200))
    (D__law_scanned : Df K mg "_law_scanned" sScan f6 d6 ["writing"]) (G__law_scanned : FnG P w K mg base CX0 1 f6 d6 ["writing"] spScan)
    (D__law_walked : Df K mg "_law_walked" sWalk f7 d7 ["writing"]) (G__law_walked : FnG P w K mg base CX0 1 f7 d7 ["writing"] spWalk)
    (D__law_with : Df K mg "_law_with" sWth f8 d8 ["writing", "way", "part"]) (G__law_with : FnG P w K mg base CX0 65 f8 d8 ["writing", "way", "part"] (spWth 64)) : FnG P w K mg base CX0 (n + 1) f fd ["chest", "writing", "way", "part"] spPRt := by
  refine fun_okG F scPRt (fun vs H Q E h => ?_) (fun cdv A outer s H vs Q E hr h => ?_)
  · obtain ⟨ch, v, pa, u, wr, t, s, p, rfl, _⟩ := h
    rfl
  obtain ⟨ch, v, pa, u, wr, t, s', p, rfl, hw, ok, hsg, hly, hu, okt, htg, hp, hat, q⟩ := h
  refine ⟨_, (pss_cons (ps_set (i := 4) scPRt.nd rfl (.inl rfl) (pe_cg D__law_with G__law_with hr (by omega) (pa_cons (pv 1) (pa_cons (pv 2) (pa_cons (pv 3) pa_nil)))))
      (pss_cons (ps_set (i := 5) scPRt.nd rfl (.inl rfl) (pe_cg D_with_part G_with_part hr (by omega) (pa_cons (pv 1) (pa_cons (pv 2) (pa_cons (pv 3) pa_nil)))))
      (pss_cons (ps_if (PW.pt (pw_or (pt_cmpR op_ne (pe_callB (call_repr hr.gd hr.units2) (by rfl) T.b_repr (by decide +kernel) (pa_cons (pv 5) pa_nil)) (pe_callB (call_repr hr.gd hr.units2) (by rfl) T.b_repr (by decide +kernel) (pa_cons (pv 4) pa_nil)) (nomark _)) (pw_or1 (pt_cmpR op_ne (pe_callB (call_repr hr.gd hr.units2) (by rfl) T.b_repr (by decide +kernel) (pa_cons (pe_cgk0 D_with_part G_with_part B_with_part hr (by omega) (pk_cons (pe_cg D__law_listed G__law_listed hr (by omega) (pa_cons (pv 3) pa_nil)) (pk_cons (pe_callTy call_list_of (by rfl) T.b_list (by decide +kernel) (pa_cons (pv 2) pa_nil)) (pk_cons (pe_cg D__law_listed G__law_listed hr (by omega) (pa_cons (pv 1) pa_nil)) pk_nil)))) pa_nil)) (pe_callB (call_repr hr.gd hr.units2) (by rfl) T.b_repr (by decide +kernel) (pa_cons (pv 4) pa_nil)) (nomark _))))) (pss_one (ps_ret pe_bl)) pss_nil)
      (pss_cons (ps_if (PW.pt (pw_or (pt_cmpR (op_neD hr.units) (pe_cg D_part_at G_part_at hr (by omega) (pa_cons (pv 5) (pa_cons (pv 2) pa_nil))) (pv 3) (nomark _)) (pw_or1 (pt_cmpR (op_neD hr.units) (pe_cg D_free_names G_free_names hr (by omega) (pa_cons (pv 5) pa_nil)) (pe_callTy call_tuple_of (by rfl) T.b_tuple (by decide +kernel) (pa_cons (pe_cg D__law_scanned G__law_scanned hr (by omega) (pa_cons (pv 4) pa_nil)) pa_nil)) (nomark _))))) (pss_one (ps_ret pe_bl)) pss_nil)
      (pss_cons (ps_if (pt_cmpR op_ne (pe_callB (call_repr hr.gd hr.units2) (by rfl) T.b_repr (by decide +kernel) (pa_cons (pe_cg D_with_part G_with_part hr (by omega) (pa_cons (pv 5) (pa_cons (pv 2) (pa_cons (pe_cg D_part_at G_part_at hr (by omega) (pa_cons (pv 1) (pa_cons (pv 2) pa_nil))) pa_nil)))) pa_nil)) (pe_callB (call_repr hr.gd hr.units2) (by rfl) T.b_repr (by decide +kernel) (pa_cons (pv 1) pa_nil)) (nomark _)) (pss_one (ps_ret pe_bl)) pss_nil)
      (pss_cons (ps_set (i := 6) scPRt.nd rfl (.inl rfl) (pe_op op_cat (pe_lc (own := [("each", 7), ("its", 8)]) (g := (gTup K 2 (gCons (gName 7) (gCons (gName 8) gNil)))) (by rfl) scPRt.nd (pi_list (pe_cg D__law_walked G__law_walked hr (by omega) (pa_cons (pv 1) pa_nil))) (blkOk_by (own := [("each", 7), ("its", 8)]) (N := ["chest", "writing", "way", "part", "due", "told", "ways", "each", "its"]) (sc := defScope sPRt) (by decide +kernel)) (fun _ _ _ _ _ => (pg_tup (by rfl) (pgs_cons (pg_name (i := 7) scPRt.nd rfl (.inl rfl)) (pgs_cons (pg_name (i := 8) scPRt.nd rfl (.inl rfl)) pgs_nil)))) (fun _ _ _ _ _ => (pts_one (pt_cmpR (show OpR _ _ (rNeD K) from op_neD hr.units) (pe_slice (show SlR _ (rSlA K) from sl_tupA) (pv 7) po_none (po_some (pe_callB (show CallR _ (.builtin "len") (rLenS K) from call_len_seq) (by rfl) T.b_len (by decide +kernel) (pa_cons (pv 2) pa_nil)))) (pv 2) (nomark _)))) (fun _ _ _ _ _ => (pv 7))) (pe_lc (own := [("each", 7), ("its", 8)]) (g := (gTup K 2 (gCons (gName 7) (gCons (gName 8) gNil)))) (by rfl) scPRt.nd (pi_list (pe_cg D__law_walked G__law_walked hr (by omega) (pa_cons (pv 3) pa_nil))) (blkOk_by (own := [("each", 7), ("its", 8)]) (N := ["chest", "writing", "way", "part", "due", "told", "ways", "each", "its"]) (sc := defScope sPRt) (by decide +kernel)) (fun _ _ _ _ _ => (pg_tup (by rfl) (pgs_cons (pg_name (i := 7) scPRt.nd rfl (.inl rfl)) (pgs_cons (pg_name (i := 8) scPRt.nd rfl (.inl rfl)) pgs_nil)))) (fun _ _ _ _ _ => pts_nil) (fun _ _ _ _ _ => (pe_op (show OpR _ _ (rCatA K) from op_catA) (pv 2) (pv 7))))))
      (pss_one (ps_ret (pe_cmpR (op_eqD hr.units) (pe_callTy call_list_of (by rfl) T.b_list (by decide +kernel) (pa_cons (pe_cg D_places_of G_places_of hr (by omega) (pa_cons (pv 5) pa_nil)) pa_nil)) (pe_callB (cr_sortTI hr.units) (by rfl) T.b_sorted (by decide +kernel) (pa_cons (pv 6) pa_nil)) (nomark _)))))))))), ?_⟩
  obtain ⟨i, hs, hpath⟩ := idx_of hat
  obtain ⟨z1, z2⟩ := at_sz hat
  have lyt := t.ly_sg
  have ssl := s'.ly_pos
  obtain ⟨r1, r2⟩ := repl_size (t := t) wr i
  have okd : (Wr.repl t wr i).all okN = true := Wr.repl_all okt ok
  have erep : Wr.repl t wr i = repP t wr p := by rw [rep_eq hs, hpath]
  rw [erep] at r1 r2 okd
  have hat2 : atP (repP t wr p) p = some t := by
    have := at_app (t := t) (r := []) hat
    rw [List.append_nil, atP_nil] at this
    exact this
  obtain ⟨i2, hs2, hpath2⟩ := idx_of hat2
  have oks := at_ok hat ok
  have back : repP s' (repP t wr p) p = wr := rep_back hat
  have perm := pths_rep (t := t) hat
  have dd := wd_depth (repP t wr p)
  have df := wd_fits okd (by omega)
  have wdd := wd_depth wr
  have wf := wd_fits ok (by omega)
  refine ⟨_, rfl, _, rfl, _, rfl, v, pa, u, wr, t, s', p, rfl, hw, hp, hu, hat, by omega, fun vd H1 s1 hd => ?_⟩
  refine ⟨_, rfl, _, rfl, _, rfl, v, pa, u, _, _, wr, s', t, i, rfl, (hw.same s1).dp, tells_d _, ok, by omega, (hu.same s1).dp, tells_d _, okt, by omega, hs, .inr (by rw [hpath]; exact s1 _ _ hp), fun vt H2 s2 ht => ?_⟩
  rw [erep] at ht
  have hd := hd.same s2
  have s02 := s1.trans s2
  clear s1 s2
  generalize ewd : repP t wr p = wd at *
  refine ⟨_, rfl, vt, wd.d, rfl, ht.dp, wd_showable wd, wd_noDict wd, by omega, df, _, rfl, vd, wd.d, rfl, hd.dp, wd_showable wd, wd_noDict wd, by omega, df, rfl, _, rfl, ?_⟩
  rw [decide_eq_true rfl]
  refine iteF ⟨_, rfl, u, t, rfl, hu.same s02, by omega, fun u3 H3 s3 la3 => ?_⟩
  have s03 := s02.trans s3
  refine ⟨_, rfl, pa, _, rfl, .inr (SqT.of (s03 _ _ hp)), fun l4 hl4 => ?_⟩
  have x4 := new_same (o := .lst (p.map fun n => V.int ((n : Nat) : Int))) hl4
  refine ⟨_, rfl, v, wr, rfl, (hw.same s03).same x4, by omega, fun v5 H5 s5 la5 => ?_⟩
  have s35 := x4.trans s5
  have s05 := s03.trans s35
  have la3' := (la3 pa _ (s02 _ _ hp)).mono fun a o _ e => s35 _ _ e
  refine ⟨rfl, rfl, v5, l4, u3, _, _, wr, s', t, i, rfl, (la5 pa _ (x4 _ _ (s03 _ _ hp))).dp, tells_dl _, ok, by omega, la3'.dp, tells_dl _, okt, by omega, hs, .inl (by rw [hpath]; exact s5 _ _ upd_same), fun v6 H6 s6 h6 => ?_⟩
  rw [erep] at h6
  have s26 := s3.trans (s35.trans s6)
  have s06 := s02.trans s26
  refine ⟨v6, wd.d, rfl, h6.dp, wd_showable wd, wd_noDict wd, by omega, df, _, rfl, vd, wd.d, rfl, (hd.same s26).dp, wd_showable wd, wd_noDict wd, by omega, df, rfl, _, rfl, ?_⟩
  rw [decide_eq_true rfl]
  have ht6 := ht.same s26
  have hd6 := hd.same s26
  clear s02 s3 s03 x4 s5 s35 s05 la3' la3 la5 s6 s26 h6 ht hd
  refine iteF ⟨_, rfl, _, rfl, vt, pa, _, wd, t, i2, rfl, ht6.dp, tells_d _, okd, by omega, hs2, .inr (by rw [hpath2]; exact s06 _ _ hp), fun v7 H7 s7 h7 => ?_⟩
  have s07 := s06.trans s7
  refine ⟨_, rfl, _, _, h7.dp, (hu.same s07).dp, wd_shaped okt (by omega), wd_shaped okt (by omega), _, rfl, ?_⟩
  rw [wd_self]
  have ht7 := ht6.same s7
  have hd7 := hd6.same s7
  refine iteF ⟨_, rfl, vt, _, wd, rfl, ht7.dp, tells_d _, okd, by omega, by omega, fun a8 H8 s8 ha8 => ?_⟩
  refine ⟨_, rfl, vd, wd, rfl, hd7.same s8, by omega, fun l9 H9 s9 _ hl9 => ⟨l9, _, rfl, .inl ⟨SqL.of hl9, fun t10 ht10 => ?_⟩⟩⟩
  have x10 := new_same (o := .tup (wd.fr.map V.str)) ht10
  have s710 := s8.trans (s9.trans x10)
  have okfr := nms_all okd
  refine ⟨_, _, .tup (sqT_same ha8 (s9.trans x10)) (dp_strs _), .tup (SqT.of upd_same) (dp_strs _), nms_lay okfr, nms_lay okfr, _, rfl, ?_⟩
  rw [show PyData.eqv (.tuple (wd.fr.map PyData.str)) (.tuple (wd.fr.map PyData.str)) = true from nms_self wd.fr]
  have s010 := s07.trans s710
  have ht10' := ht7.same s710
  have hd10 := hd7.same s710
  generalize L2.upd H9 t10 (.tup (wd.fr.map V.str)) = H10 at s010 ht10' hd10
  clear s7 s07 s8 s9 x10 s710 ht7 hd7 ht6 hd6 s06 h7
  refine iteF ⟨_, rfl, _, rfl, _, rfl, _, rfl, v, pa, _, wr, s', i, rfl, (hw.same s010).dp, tells_d _, ok, by omega, hs, .inr (by rw [hpath]; exact s010 _ _ hp), fun v11 H11 s11 h11 => ?_⟩
  have s011 := s010.trans s11
  refine ⟨vt, pa, v11, _, _, wd, t, s', i2, rfl, (ht10'.same s11).dp, tells_d _, okd, by omega, h11.dp, tells_d _, oks, by omega, hs2, .inr (by rw [hpath2]; exact s011 _ _ hp), fun v12 H12 s12 h12 => ?_⟩
  rw [show Wr.repl s' wd i2 = wr by rw [rep_eq hs2, hpath2]; exact back] at h12
  have s012 := s011.trans s12
  refine ⟨v12, wr.d, rfl, h12.dp, wd_showable wr, wd_noDict wr, by omega, wf, _, rfl, v, wr.d, rfl, (hw.same s012).dp, wd_showable wr, wd_noDict wr, by omega, wf, rfl, _, rfl, ?_⟩
  rw [decide_eq_true rfl]
  have ht12 := ht10'.same (s11.trans s12)
  clear s010 s11 s011 s12 h11 h12 ht10' hd10
  refine iteF ?_
  refine ⟨_, rfl, v, wr, rfl, hw.same s012, by omega, fun L ts H13 s13 _ hL hR => ⟨L, rfl, ⟨_, SqL.of hL⟩, fun D hD => ?_⟩⟩
  have s013 := s012.trans s13
  have ht13 := ht12.same s13
  clear s012 s13 ht12
  refine lc_list (K := K) (a := L) (xs := ts.map V.ref) (fun m G => Same H13 G ∧ ∃ as : List Addr, G D = some (.lst (as.map V.ref)) ∧ as.length ≤ m ∧ TupsN G as ((((zipW wr []).take m).map Prod.fst).filter fun r => decide (r.take p.length ≠ p))) ?_ ?_ ?_ ?_
  · exact ⟨same_new hD, [], upd_same, Nat.le_refl _, .nil⟩
  · rintro m G _ ⟨s, _⟩
    exact SqL.of (s _ _ hL)
  · rintro m y G hy ⟨s, as, hDG, lm, hT⟩
    rw [List.getElem?_map] at hy
    obtain ⟨tm, htm, rfl⟩ := Option.map_eq_some_iff.mp hy
    obtain ⟨qm, hqm, am, vm, e1, e2, e3⟩ := TG.paired_get hR htm
    have mlt : m < ts.length := lt_get htm
    have lts : ts.length = wr.sg := by rw [TG.paired_len hR, zipW_len]
    have enext : (((zipW wr []).take (m + 1)).map Prod.fst).filter (fun r => decide (r.take p.length ≠ p)) = (((zipW wr []).take m).map Prod.fst).filter (fun r => decide (r.take p.length ≠ p)) ++ if qm.1.take p.length ≠ p then [qm.1] else [] := by
      rw [take_more hqm, List.map_append, List.filter_append]
      congr 1
      show [qm.1].filter _ = _
      by_cases c : qm.1.take p.length ≠ p
      · rw [if_pos c, List.filter_cons_of_pos (by exact decide_eq_true c)]
        rfl
      · rw [if_neg c, List.filter_cons_of_neg (by exact fun z => c (of_decide_eq_true z))]
        rfl
    have eG := s _ _ e1
    have pG := s _ _ e2
    refine ⟨tm, _, rfl, SqT.of eG, rfl, _, _, rfl, _, _, rfl, rfl, ?_⟩
    refine ⟨rfl, _, rfl, _, rfl, pa, _, rfl, .inr (SqT.of (s _ _ (s013 _ _ hp))), _, rfl, ?_⟩
    refine sl_place (ns := qm.1) pG fun c G2 sG hc => ?_
    rw [List.length_map] at hc
    refine ⟨_, rfl, _, _, place_dp hc, place_dp (sG _ _ (s _ _ (s013 _ _ hp))), pl_shaped _, pl_shaped _, _, rfl, ?_⟩
    rw [pl_eqv, enext]
    have sG2 := s.trans sG
    by_cases c : qm.1.take p.length = p
    · rw [decide_eq_true c, if_neg (fun z => z c), List.append_nil]
      exact iteF ⟨sG2, as, sG _ _ hDG, by omega, hT.tk (.of_same sG)⟩
    · rw [decide_eq_false c, if_pos c]
      refine iteT ⟨_, rfl, _, sG _ _ hDG, by rw [List.length_map]; exact small_le (by omega), same_put sG2 hD, as ++ [am], by rw [upd_same, List.map_append]; rfl, by rw [List.length_append]; show _ + 1 ≤ _; omega, ?_⟩
      exact paired_join ((hT.tk (.of_same sG)).tk (.put (sG _ _ hDG))) (.cons ((TupKeep.put (sG _ _ hDG)) _ _ (sG _ _ pG)) .nil)
  rintro H14 ⟨s14, as1, hD14, lm1, hT1⟩
  rw [List.length_map, List.take_of_length_le (by rw [TG.paired_len hR]; exact Nat.le_refl _), zip_fst] at hT1
  have lts : ts.length = wr.sg := by rw [TG.paired_len hR, zipW_len]
  have la1 : as1.length ≤ 200 := by rw [List.length_map] at lm1; omega
  have s014 := s013.trans s14
  have ht14 := ht13.same s14
  clear s013 s14 ht13 hL hR lm1 hD
  refine ⟨_, rfl, u, t, rfl, hu.same s014, by omega, fun Lt ts2 H15 s15 _ hL2 hR2 => ⟨Lt, rfl, ⟨_, SqL.of hL2⟩, fun D2 hD2 => ?_⟩⟩
  have s015 := s014.trans s15
  have ht15 := ht14.same s15
  have hD15 := s15 _ _ hD14
  have hT15 := hT1.tk (.of_same s15)
  clear s014 s15 ht14 hD14 hT1
  refine lc_list (K := K) (a := Lt) (xs := ts2.map V.ref) (fun m G => Same H15 G ∧ ∃ as : List Addr, G D2 = some (.lst (as.map V.ref)) ∧ as.length ≤ m ∧ TupsN G as (((zipW t []).take m).map fun r => p ++ r.1)) ?_ ?_ ?_ ?_
  · exact ⟨same_new hD2, [], upd_same, Nat.le_refl _, .nil⟩
  · rintro m G _ ⟨s, _⟩
    exact SqL.of (s _ _ hL2)
  · rintro m y G hy ⟨s, as, hDG, lm, hT⟩
    rw [List.getElem?_map] at hy
    obtain ⟨tm, htm, rfl⟩ := Option.map_eq_some_iff.mp hy
    obtain ⟨qm, hqm, am, vm, e1, e2, e3⟩ := TG.paired_get hR2 htm
    have mlt : m < ts2.length := lt_get htm
    have lts2 : ts2.length = t.sg := by rw [TG.paired_len hR2, zipW_len]
    have lq : qm.1.length ≤ 2000 := by
      have h1 : qm.1 ∈ t.pths [] := by
        rw [← zip_fst]
        exact List.mem_map.mpr ⟨qm, List.mem_of_getElem? hqm, rfl⟩
      obtain ⟨j, hj⟩ := List.mem_iff_getElem?.mp h1
      have hj2 : j < t.sg := by rw [← Wr.pths_len t []]; exact lt_get hj
      rw [Wr.path_at hj2] at hj
      have := Wr.path_len hj2
      rw [← Option.some.inj hj]
      omega
    refine ⟨tm, _, rfl, SqT.of (s _ _ e1), rfl, _, _, rfl, _, _, rfl, rfl, ?_⟩
    refine ⟨rfl, _, rfl, _, rfl, cat_place (ns := p) (ms := qm.1) (s _ _ (s015 _ _ hp)) (s _ _ e2) (by omega) fun c G2 sG hc => ?_⟩
    have sG2 := s.trans sG
    refine ⟨_, sG _ _ hDG, by rw [List.length_map]; exact small_le (by omega), same_put sG2 hD2, as ++ [c], by rw [upd_same, List.map_append]; rfl, by rw [List.length_append]; show _ + 1 ≤ _; omega, ?_⟩
    rw [take_more hqm, List.map_append]
    exact paired_join ((hT.tk (.of_same sG)).tk (.put (sG _ _ hDG))) (.cons ((TupKeep.put (sG _ _ hDG)) _ _ hc) .nil)
  rintro H16 ⟨s16, as2, hD16, lm2, hT2⟩
  rw [List.length_map, List.take_of_length_le (by rw [TG.paired_len hR2]; exact Nat.le_refl _)] at hT2
  have eB : (zipW t []).map (fun r => p ++ r.1) = (t.pths []).map (p ++ ·) := by
    rw [← zip_fst t, List.map_map]
    rfl
  rw [eB] at hT2
  have lts2 : ts2.length = t.sg := by rw [TG.paired_len hR2, zipW_len]
  have la2 : as2.length ≤ 10 := by rw [List.length_map] at lm2; omega
  have s016 := s015.trans s16
  have hD1' := s16 _ _ hD15
  have hT1' := hT15.tk (.of_same s16)
  have ht16 := ht15.same s16
  refine ⟨D, D2, _, _, rfl, rfl, hD1', hD16, by rw [List.length_map, List.length_map]; exact Nat.le_of_lt (small_le (by omega)), fun W hW => ?_⟩
  have x17 := new_same (o := .lst (as1.map V.ref ++ as2.map V.ref)) hW
  have hW17 : L2.upd H16 W (.lst (as1.map V.ref ++ as2.map V.ref)) W = some (.lst ((as1 ++ as2).map V.ref)) := by rw [upd_same, List.map_append]
  have hT17 : TupsN (L2.upd H16 W (.lst (as1.map V.ref ++ as2.map V.ref))) (as1 ++ as2) (((wr.pths []).filter fun r => decide (r.take p.length ≠ p)) ++ (t.pths []).map (p ++ ·)) := paired_join (hT1'.tk (.of_same x17)) (hT2.tk (.of_same x17))
  have s017 := s016.trans x17
  have ht17 := ht16.same x17
  generalize L2.upd H16 W (.lst (as1.map V.ref ++ as2.map V.ref)) = H17 at s017 ht17 hW17 hT17
  clear x17 s016 s16 s015 hT1' hT2 hT15 hD15 hD1' hD16 ht16 ht15
  refine ⟨_, rfl, vt, _, wd, rfl, ht17.dp, tells_d _, okd, by omega, fun tt as H18 s18 hTT hPP => ⟨tt, _, rfl, .inr hTT, fun l hl => ?_⟩⟩
  have x19 := new_same (o := .lst (as.map V.ref)) hl
  have s19 := s18.trans x19
  have hT19 := hT17.tk (.of_same s19)
  have hPP19 := hPP.tk (.of_same x19)
  have hl19 : L2.upd H18 l (.lst (as.map V.ref)) l = some (.lst (as.map V.ref)) := upd_same
  have s019 := s017.trans s19
  have hW19 := s19 _ _ hW17
  generalize L2.upd H18 l (.lst (as.map V.ref)) = H19 at hT19 hPP19 hl19 s019 hW19
  have kmap := kOf_tups hT19
  refine ⟨_, rfl, W, as1 ++ as2, kOf H19, rfl, SqL.of hW19, fun a ha => ?_, fun a r e => ?_, fun ts' pp hperm hpw hp0 => ?_⟩
  · obtain ⟨ns, hns⟩ := tups_mem hT19 ha
    rw [kOf_place hns]
    unfold kI
    rw [List.map_map]
    exact SqT.of hns
  · rw [e] at kmap hT19
    obtain ⟨ns, hns⟩ := tups_mem hT19 (a := a) List.mem_cons_self
    have first : ∃ rest, ((wr.pths []).filter fun r => decide (r.take p.length ≠ p)) ++ (t.pths []).map (p ++ ·) = [] :: rest := by
      cases p with
      | nil =>
        have e1 : (wr.pths []).filter (fun r => decide (r.take ([] : List Nat).length ≠ [])) = [] := List.filter_eq_nil_iff.mpr fun r _ z => of_decide_eq_true z rfl
        rw [e1]
        cases t <;> exact ⟨_, rfl⟩
      | cons n0 p =>
        have e1 : ∃ rest, wr.pths [] = [] :: rest := by cases wr <;> exact ⟨_, rfl⟩
        obtain ⟨rest, e1⟩ := e1
        rw [e1, List.filter_cons_of_pos (by exact decide_eq_true (List.cons_ne_nil n0 p).symm)]
        exact ⟨_, rfl⟩
    obtain ⟨rest, e2⟩ := first
    rw [e2, List.map_cons, List.map_cons] at kmap
    injection kmap with k1 _
  · have hps : (ts'.map (kOf H19)).Perm ((wd.pths []).map kI) := by
      refine (hperm.map (kOf H19)).trans ?_
      rw [kmap]
      exact (perm.map kI).symm
    have heq := sorted_uniq hps (List.pairwise_map.mpr hpw) (rise_sorted (pths_rise wd []))
    have x20 := new_same (o := .lst (ts'.map V.ref)) hp0
    refine ⟨.list ((wd.pths []).map plD), .list ((wd.pths []).map plD), .lst (SqL.of (x20 _ _ hl19)) (dp_refs (hPP19.tk (.of_same x20))), .lst (SqL.of upd_same) (dp_sorted H19 x20 (fun a ha => tups_mem hT19 (hperm.mem_iff.mp ha)) heq), plsL_shaped _, plsL_shaped _, ?_⟩
    rw [plsL_self]
    exact q _ (s019.trans x20)
end
end TF07
set_option maxHeartbeats 400000
namespace TF07
open PySem PySem.Spec L2 TG TA
open PyProof.Rows hiding St
/-! ### two parts -/
theorem keep_tk {p : Addr} {H H' : Hp} {n : Nat} {c : Addr} (hp : PenAt n H p c) (k : Keep p H H') : TupKeep H H' := fun b xs h => k b _ (fun z => by
  subst z
  obtain ⟨ys, e⟩ := hp.lst
  rw [e] at h
  cases h) h
theorem with_at {K : PySem.W.Frag} {H : Hp} {v u : V} {pa : Addr} {w t s : Wr} {p : List Nat} {Q : VK} (hw : WA H v w) (ok : w.all okN = true) (hsg : w.sg ≤ 2000) (hu : WA H u t) (okt : t.all okN = true) (htg : t.sg ≤ 2000) (hat : atP w p = some s) (hp : PlaceT H pa p)
    (q : ∀ (v' : V) (H' : Hp), Same H H' → WA H' v' (repP t w p) → (repP t w p).all okN = true → (repP t w p).sg ≤ w.sg + t.sg → (repP t w p).ly ≤ w.ly + t.ly → Q v' H') : spWith K [v, .ref pa, u] H Q E0 := by
  obtain ⟨i, hs, hpath⟩ := idx_of hat
  obtain ⟨r1, r2⟩ := repl_size (t := t) w i
  have okd : (Wr.repl t w i).all okN = true := Wr.repl_all okt ok
  have erep : Wr.repl t w i = repP t w p := by rw [rep_eq hs, hpath]
  rw [erep] at r1 r2 okd
  refine ⟨v, pa, u, _, _, w, s, t, i, rfl, hw.dp, tells_d _, ok, hsg, hu.dp, tells_d _, okt, htg, hs, .inr (by rw [hpath]; exact hp), fun v' H' s' h' => ?_⟩
  rw [erep] at h'
  exact q v' H' s' h' okd r1 r2
theorem zip_at {w : Wr} {q : List Nat × Wr} (h : q ∈ zipW w []) : atP w q.1 = some q.2 := by
  obtain ⟨j, hj⟩ := List.mem_iff_getElem?.mp h
  unfold zipW at hj
  obtain ⟨h1, h2⟩ := List.getElem?_zip_eq_some.mp hj
  have hl := Wr.subs_lt h2
  rw [Wr.path_at hl] at h1
  rw [← Option.some.inj h1]
  exact at_path h2
theorem pair_of {H : Hp} {ts : List Addr} {w : Wr} (h : WalkR H ts (zipW w [])) {x : V} (hx : x ∈ ts.map V.ref) : ∃ (t a : Addr) (v : V) (r : List Nat) (s : Wr), x = .ref t ∧ H t = some (.tup [.ref a, v]) ∧ PlaceT H a r ∧ atP w r = some s := by
  obtain ⟨t, ht, rfl⟩ := List.mem_map.mp hx
  obtain ⟨j, hj⟩ := List.mem_iff_getElem?.mp ht
  obtain ⟨q, hq, a, v, h1, h2, h3⟩ := TG.paired_get h hj
  exact ⟨t, a, v, q.1, q.2, rfl, h1, h2, zip_at (List.mem_of_getElem? hq)⟩
theorem WalkR.ne {H : Hp} {ts : List Addr} {w : Wr} (h : WalkR H ts (zipW w [])) : ts.map V.ref ≠ [] ∧ (ts.map V.ref).length = w.sg := by
  have l := TG.paired_len h
  rw [zipW_len] at l
  have := w.sg_pos
  refine ⟨fun e => ?_, by rw [List.length_map, l]⟩
  rw [List.map_eq_nil_iff.mp e] at l
  have l : 0 = w.sg := l
  omega
abbrev sTwo : Stmt := top 48
theorem scTwo : FnScope ["chest", "writing", "pairs", "part", "other", "way", "its", "apart", "inner", "whole"] ["chest", "writing", "pairs", "part", "other"] (defScope sTwo) := ⟨rfl, rfl, rfl, by decide +kernel, rfl, by decide +kernel, by decide +kernel⟩
def spTwo : Sp := fun vs H Q _ => ∃ (p c : Addr) (v : V) (L : Addr) (u o : V) (w t r : Wr) (ts : List Addr) (m : Nat), vs = [.ref p, v, .ref L, u, o] ∧ PenAt m H p c ∧ m ≤ 80000 ∧ L ≠ p ∧ WA H v w ∧ w.all okN = true ∧ w.sg ≤ 20 ∧ WA H u t ∧ t.all okN = true ∧ t.sg ≤ 10 ∧ WA H o r ∧ r.all okN = true ∧ r.sg ≤ 10 ∧
  H L = some (.lst (ts.map V.ref)) ∧ WalkR H ts (zipW w []) ∧ ∀ (H' : Hp), Keep p H H' → PenAt (m + 3) H' p c → Q (.bl true) H'
section
variable {P : Program} {w : World} {K : PySem.W.Frag} {mg : Str → Option Value} {base : Heap} {f f1 f2 f3 f4 f5 f6 f7 f8 : Addr} {fd d1 d2 d3 d4 d5 d6 d7 d8 : FuncData} {k1 k2 k3 k4 n : Nat}
theorem ok_two (hn : k1 ≤ n ∧ 6 ≤ n) (F : Fun K "_law_two_right" "_law_two_right" sTwo f fd) (T : Bn mg)
    (D_with_part : Df K mg "with_part" sWith f1 d1 ["writing", "place", "part"]) (G_with_part : FnG P w K mg base CX0 k1 f1 d1 ["writing", "place", "part"] (spWith K))
    (D__law_some : Df K mg "_law_some" sPick f2 d2 ["chest", "some"]) (G__law_some : FnG P w K mg base CX0 6 f2 d2 ["chest", "some"] (spPick K))
    (D__law_walked : Df K mg "_law_walked" sWalk f7 d7 ["writing"]) (G__law_walked : FnG P w K mg base CX0 1 f7 d7 ["writing"] spWalk) : FnG P w K mg base CX0 (n + 1) f fd ["chest", "writing", "pairs", "part", "other"] spTwo := by
  refine fun_okG F scTwo (fun vs H Q E h => ?_) (fun cdv A outer s H vs Q E hr h => ?_)
  · obtain ⟨p, c, v, L, u, o, wr, t, r, ts, m, rfl, _⟩ := h
    rfl
  obtain ⟨p, c, v, L, u, o, wr, t, r, ts, m, rfl, hp, hm, nL, hw, ok, hsg, hu, okt, htg, ho, oko, hog, hL, hR, q⟩ := h
  refine ⟨_, (pss_cons (ps_par (i := 5) (j := 6) (by rfl) scTwo.nd rfl rfl (by decide) rfl rfl (pa_cons (pe_ix ix_tup (pe_cg D__law_some G__law_some hr (by omega) (pa_cons (pv 0) (pa_cons (pv 2) pa_nil))) pe_int (fun _ _ => rfl)) (pa_cons (pe_ix ix_tup (pe_cg D__law_some G__law_some hr (by omega) (pa_cons (pv 0) (pa_cons (pv 2) pa_nil))) pe_int (fun _ _ => rfl)) pa_nil)) (by rfl))
      (pss_cons (ps_set (i := 7) scTwo.nd rfl (.inl rfl) (pe_and (pe_cmpR (op_neD hr.units) (pe_slice sl_tupA (pv 5) po_none (po_some (pe_callB call_len_seq (by rfl) T.b_len (by decide +kernel) (pa_cons (pv 6) pa_nil)))) (pv 6) (nomark _)) (pe_one (pe_cmpR (op_neD hr.units) (pe_slice sl_tupA (pv 6) po_none (po_some (pe_callB call_len_seq (by rfl) T.b_len (by decide +kernel) (pa_cons (pv 5) pa_nil)))) (pv 5) (nomark _)))))
      (pss_cons (ps_if (PW.pt (pw_and (pt_val (pv 7)) (pw_and1 (pt_cmpR (op_neD hr.units) (pe_cg D_with_part G_with_part hr (by omega) (pa_cons (pe_cg D_with_part G_with_part hr (by omega) (pa_cons (pv 1) (pa_cons (pv 5) (pa_cons (pv 3) pa_nil)))) (pa_cons (pv 6) (pa_cons (pv 4) pa_nil)))) (pe_cg D_with_part G_with_part hr (by omega) (pa_cons (pe_cg D_with_part G_with_part hr (by omega) (pa_cons (pv 1) (pa_cons (pv 6) (pa_cons (pv 4) pa_nil)))) (pa_cons (pv 5) (pa_cons (pv 3) pa_nil)))) (nomark _))))) (pss_one (ps_ret pe_bl)) pss_nil)
      (pss_cons (ps_set (i := 8) scTwo.nd rfl (.inl rfl) (pe_ix ix_tup (pe_cg D__law_some G__law_some hr (by omega) (pa_cons (pv 0) (pa_cons (pe_cg D__law_walked G__law_walked hr (by omega) (pa_cons (pv 3) pa_nil)) pa_nil))) pe_int (fun _ _ => rfl)))
      (pss_cons (ps_set (i := 9) scTwo.nd rfl (.inl rfl) (pe_cg D_with_part G_with_part hr (by omega) (pa_cons (pe_cg D_with_part G_with_part hr (by omega) (pa_cons (pv 1) (pa_cons (pv 5) (pa_cons (pv 3) pa_nil)))) (pa_cons (pe_op op_catA (pv 5) (pv 8)) (pa_cons (pv 4) pa_nil)))))
      (pss_one (ps_ret (pe_cmpR (op_eqD hr.units) (pv 9) (pe_cg D_with_part G_with_part hr (by omega) (pa_cons (pv 1) (pa_cons (pv 5) (pa_cons (pe_cg D_with_part G_with_part hr (by omega) (pa_cons (pv 3) (pa_cons (pv 8) (pa_cons (pv 4) pa_nil)))) pa_nil)))) (nomark _))))))))), ?_⟩
  have lyw := wr.ly_sg
  have lyt := t.ly_sg
  have lyo := r.ly_sg
  obtain ⟨ne1, len1⟩ := hR.ne
  refine ⟨_, rfl, _, rfl, p, c, L, _, m, rfl, hp, by omega, nL, hL, ne1, by omega, fun x1 H1 hx1 k1 hp1 => ?_⟩
  have tk1 := keep_tk hp k1
  have hR1 := hR.tk tk1
  obtain ⟨t1, a1, v1, p1, s1, rfl, ht1, hpl1, at1⟩ := pair_of hR1 hx1
  refine ⟨t1, _, _, .ref a1, rfl, rfl, SqT.of ht1, rfl, ?_⟩
  refine ⟨_, rfl, _, rfl, p, c, L, _, m + 1, rfl, hp1, by omega, nL, k1 _ _ nL hL, ne1, by omega, fun x2 H2 hx2 k2 hp2 => ?_⟩
  have tk2 := keep_tk hp1 k2
  have hR2 := hR1.tk tk2
  obtain ⟨t2, a2, v2, p2, s2, rfl, ht2, hpl2, at2⟩ := pair_of hR2 hx2
  refine ⟨t2, _, _, .ref a2, rfl, rfl, SqT.of ht2, rfl, ?_⟩
  refine ⟨_, _, rfl, ?_⟩
  have tk02 := tk1.trans tk2
  have hpl1 := PlaceT.tk hpl1 tk2
  have hw2 := hw.mono tk02
  have hu2 := hu.mono tk02
  have ho2 := ho.mono tk02
  have k02 := k1.trans k2
  obtain ⟨l1, l1'⟩ := at_sz at1
  obtain ⟨l2, l2'⟩ := at_sz at2
  clear tk1 tk2 hR1 hR2 ht1 hx1 hx2 hp1 ht2
  have rest : ∀ (b7 : Bool) (G : Hp), Same H2 G → tSeq (tAsg (tOp (rIxT K) (tCall (spPick K) [] E0 (tCons (tVar 0) (tCons (tCall spWalk [] E0 (tCons (tVar 3) tNil)) tNil))) (tC (V.int 0))) (gName 8)) (tSeq (tAsg (tCall (spWith K) [] E0 (tCons (tCall (spWith K) [] E0 (tCons (tVar 1) (tCons (tVar 5) (tCons (tVar 3) tNil)))) (tCons (tOp (rCatA K) (tVar 5) (tVar 8)) (tCons (tVar 4) tNil)))) (gName 9)) (tRet (tOp (rEqD K) (tVar 9) (tCall (spWith K) [] E0 (tCons (tVar 1) (tCons (tVar 5) (tCons (tCall (spWith K) [] E0 (tCons (tVar 3) (tCons (tVar 8) (tCons (tVar 4) tNil)))) tNil))))))) { nx := fun x H' => Q V.non H', rt := Q } [some (.ref p), some v, some (.ref L), some u, some o, some (.ref a1), some (.ref a2), some (.bl b7), none, none] G := by
    intro b7 G sG
    refine ⟨_, rfl, _, rfl, u, t, rfl, hu2.same sG, by omega, fun L3 ts3 H3 s3 l3 hL3 hR3 => ?_⟩
    obtain ⟨ne3, len3⟩ := hR3.ne
    have s23 := sG.trans s3
    have hp3 := hp2.same s23
    refine ⟨p, c, L3, _, m + 2, rfl, hp3, by omega, (hp2.same sG).ne l3, hL3, ne3, by omega, fun x4 H4 hx4 k4 hp4 => ?_⟩
    have tk4 := keep_tk hp3 k4
    obtain ⟨t4, a4, v4, p4, s4, rfl, ht4, hpl4, at4⟩ := pair_of (hR3.tk tk4) hx4
    refine ⟨t4, _, _, .ref a4, rfl, rfl, SqT.of ht4, rfl, ?_⟩
    have tk24 := (TupKeep.of_same s23).trans tk4
    have hw4 := hw2.mono tk24
    have hu4 := hu2.mono tk24
    have ho4 := ho2.mono tk24
    have pl1 := PlaceT.tk hpl1 tk24
    obtain ⟨l4, l4'⟩ := at_sz at4
    have k04 := (k02.trans (Keep.of_same s23)).trans k4
    refine ⟨_, rfl, _, rfl, _, rfl, with_at hw4 ok (by omega) hu4 okt (by omega) at1 pl1 fun v5 H5 s5 h5 ok5 g5 y5 => ?_⟩
    refine ⟨_, rfl, _, rfl, cat_place (ns := p1) (ms := p4) (s5 _ _ pl1) (s5 _ _ hpl4) (by omega) fun c6 H6 s6 h6 => ?_⟩
    have s56 := s5.trans s6
    refine ⟨_, rfl, with_at (h5.same s6) ok5 (by omega) (ho4.same s56) oko (by omega) (by rw [at_app at1]; exact at4) h6 fun v7 H7 s7 h7 ok7 g7 y7 => ?_⟩
    have s57 := s56.trans s7
    refine ⟨_, rfl, _, rfl, _, rfl, _, rfl, _, rfl, _, rfl, with_at (hu4.same s57) okt (by omega) (ho4.same s57) oko (by omega) at4 (s57 _ _ hpl4) fun v8 H8 s8 h8 ok8 g8 y8 => ?_⟩
    have s58 := s57.trans s8
    refine with_at (hw4.same s58) ok (by omega) h8 ok8 (by omega) at1 (s58 _ _ pl1) fun v9 H9 s9 h9 ok9 g9 y9 => ?_
    rw [rep_app at1] at h7 ok7 y7
    refine ⟨_, _, (h7.same (s8.trans s9)).dp, h9.dp, wd_shaped ok7 (by omega), wd_shaped ok9 (by omega), ?_⟩
    rw [wd_self]
    exact q _ (k04.trans (Keep.of_same (s58.trans s9))) (hp4.same (s58.trans s9))
  refine ⟨_, rfl, _, rfl, a2, _, rfl, .inr (SqT.of hpl2), _, rfl, sl_place (ns := p1) hpl1 fun c3 H3 s3 h3 => ?_⟩
  rw [List.length_map] at h3
  refine ⟨_, rfl, _, _, place_dp h3, place_dp (s3 _ _ hpl2), pl_shaped _, pl_shaped _, _, rfl, ?_⟩
  rw [pl_eqv]
  by_cases c1 : p1.take p2.length = p2
  · rw [decide_eq_true c1]
    exact iteF ⟨_, rfl, _, rfl, iteF (iteF (rest false H3 s3))⟩
  rw [decide_eq_false c1]
  refine iteT ⟨_, rfl, _, rfl, a1, _, rfl, .inr (SqT.of (s3 _ _ hpl1)), _, rfl, sl_place (ns := p2) (s3 _ _ hpl2) fun c4 H4 s4 h4 => ?_⟩
  rw [List.length_map] at h4
  have s24 := s3.trans s4
  refine ⟨_, rfl, _, _, place_dp h4, place_dp (s24 _ _ hpl1), pl_shaped _, pl_shaped _, ?_⟩
  rw [pl_eqv]
  by_cases c2 : p2.take p1.length = p1
  · rw [decide_eq_true c2]
    exact ⟨_, rfl, _, rfl, iteF (iteF (rest false H4 s24))⟩
  rw [decide_eq_false c2]
  refine ⟨_, rfl, _, rfl, iteT ?_⟩
  refine ⟨_, rfl, _, rfl, _, rfl, with_at (hw2.same s24) ok (by omega) (hu2.same s24) okt (by omega) at1 (s24 _ _ hpl1) fun v5 H5 s5 h5 ok5 g5 y5 => ?_⟩
  have s25 := s24.trans s5
  refine ⟨_, rfl, _, rfl, with_at h5 ok5 (by omega) (ho2.same s25) oko (by omega) (at_apart at1 at2 c1 c2) (s25 _ _ hpl2) fun v6 H6 s6 h6 ok6 g6 y6 => ?_⟩
  have s26 := s25.trans s6
  refine ⟨_, rfl, _, rfl, _, rfl, with_at (hw2.same s26) ok (by omega) (ho2.same s26) oko (by omega) at2 (s26 _ _ hpl2) fun v7 H7 s7 h7 ok7 g7 y7 => ?_⟩
  have s27 := s26.trans s7
  refine ⟨_, rfl, _, rfl, with_at h7 ok7 (by omega) (hu2.same s27) okt (by omega) (at_apart at2 at1 c2 c1) (s27 _ _ hpl1) fun v8 H8 s8 h8 ok8 g8 y8 => ?_⟩
  rw [rep_comm at1 at2 c1 c2] at h6
  refine ⟨_, _, (h6.same (s7.trans s8)).dp, h8.dp, wd_shaped ok8 (by omega), wd_shaped ok8 (by omega), _, rfl, ?_⟩
  rw [wd_self]
  exact iteF (rest true H8 (s27.trans s8))
end
end TF07
set_option maxHeartbeats 400000
namespace TF07
open PySem PySem.Spec L2 TG TA
open PyProof.Rows hiding St
/-! ### the law -/
abbrev sLaw : Stmt := top 49
theorem scLaw : FnScope ["script", "chest", "lap", "names", "writing", "pairs", "part", "other", "turn", "great"] ["script"] (defScope sLaw) := ⟨rfl, rfl, rfl, by decide +kernel, rfl, by decide +kernel, by decide +kernel⟩
def spLaw (K : PySem.W.Frag) : Sp := fun vs H Q _ => ∃ (a : Addr) (ns : List Int), vs = [.ref a] ∧ SqL K H a (ns.map V.int) ∧ ns.length ≤ 63 ∧ ∀ H', Q (.bl true) H'
def Nms (p : Addr) (G : Hp) (v : V) : Prop := ∃ (l : Addr) (ns : List Str), v = .ref l ∧ l ≠ p ∧ G l = some (.lst (ns.map V.str)) ∧ ns ≠ [] ∧ ns.length ≤ 100 ∧ ns.all okN = true
theorem Nms.keep {p : Addr} {G G' : Hp} {v : V} (h : Nms p G v) (k : Keep p G G') : Nms p G' v := by
  obtain ⟨l, ns, e, n, h, a, b, d⟩ := h
  exact ⟨l, ns, e, n, k _ _ n h, a, b, d⟩
theorem nms_ok {ns : List Str} (h : ns.all okN = true) {w : Wr} (a : w.all (fun z => decide (z ∈ ns)) = true) : w.all okN = true := all_imp (fun z hz => List.all_eq_true.mp h z (of_decide_eq_true hz)) a
section
variable {P : Program} {w : World} {K : PySem.W.Frag} {mg : Str → Option Value} {base : Heap} {f f1 f2 f3 f4 f5 f6 f7 f8 : Addr} {fd d1 d2 d3 d4 d5 d6 d7 d8 : FuncData} {k1 k2 k3 n : Nat}
theorem ok_law (hn : k1 ≤ n ∧ k2 ≤ n ∧ k3 ≤ n ∧ 207 ≤ n) (F : Fun K "law" "law" sLaw f fd) (T : Bn mg)
    (D__law_chest : Df K mg "_law_chest" sPen f1 d1 ["script"]) (G__law_chest : FnG P w K mg base CX0 3 f1 d1 ["script"] (spPen K))
    (D__law_pull : Df K mg "_law_pull" sDraw f2 d2 ["chest", "many"]) (G__law_pull : FnG P w K mg base CX0 3 f2 d2 ["chest", "many"] spDraw)
    (D__law_some : Df K mg "_law_some" sPick f3 d3 ["chest", "some"]) (G__law_some : FnG P w K mg base CX0 6 f3 d3 ["chest", "some"] (spPick K))
    (D__law_drawn : Df K mg "_law_drawn" sDrawn f4 d4 ["chest", "signs", "names"]) (G__law_drawn : FnG P w K mg base CX0 207 f4 d4 ["chest", "signs", "names"] (spDrawn 200))
    (D__law_walked : Df K mg "_law_walked" sWalk f5 d5 ["writing"]) (G__law_walked : FnG P w K mg base CX0 1 f5 d5 ["writing"] spWalk)
    (D__law_part_right : Df K mg "_law_part_right" sPRt f6 d6 ["chest", "writing", "way", "part"]) (G__law_part_right : FnG P w K mg base CX0 k1 f6 d6 ["chest", "writing", "way", "part"] spPRt)
    (D__law_two_right : Df K mg "_law_two_right" sTwo f7 d7 ["chest", "writing", "pairs", "part", "other"]) (G__law_two_right : FnG P w K mg base CX0 k2 f7 d7 ["chest", "writing", "pairs", "part", "other"] spTwo)
    (D_with_part : Df K mg "with_part" sWith f8 d8 ["writing", "place", "part"]) (G_with_part : FnG P w K mg base CX0 k3 f8 d8 ["writing", "place", "part"] (spWith K)) : FnG P w K mg base CX0 (n + 1) f fd ["script"] (spLaw K) := by
  refine fun_okG F scLaw (fun vs H Q E h => ?_) (fun cdv A outer s H vs Q E hr h => ?_)
  · obtain ⟨a, ns, rfl, _⟩ := h
    rfl
  obtain ⟨sa, ns, rfl, hS, hl, q⟩ := h
  refine ⟨_, (pss_cons (ps_set (i := 1) scLaw.nd rfl (.inl rfl) (pe_cg D__law_chest G__law_chest hr (by omega) (pa_cons (pv 0) pa_nil)))
      (pss_cons (ps_for PassesOwn.never rfl (pi_range1 (by rfl) T.b_range (pa_cons pe_int pa_nil)) (pg_name (i := 2) scLaw.nd rfl (.inl rfl))
        (pss_cons (ps_set (i := 3) scLaw.nd rfl (.inl rfl) (pe_cg D__law_some G__law_some hr (by omega) (pa_cons (pv 1) (pa_cons (pe_lst (pa_cons (pe_lst (pa_cons pe_str (pa_cons pe_str pa_nil))) (pa_cons (pe_lst (pa_cons pe_str (pa_cons pe_str (pa_cons pe_str pa_nil)))) (pa_cons (pe_lst (pa_cons pe_str (pa_cons pe_str pa_nil))) (pa_cons (pe_lst (pa_cons pe_str pa_nil)) pa_nil))))) pa_nil))))
        (pss_cons (ps_set (i := 4) scLaw.nd rfl (.inl rfl) (pe_cg D__law_drawn G__law_drawn hr (by omega) (pa_cons (pv 1) (pa_cons (pe_op op_add pe_int (pe_cg D__law_pull G__law_pull hr (by omega) (pa_cons (pv 1) (pa_cons pe_int pa_nil)))) (pa_cons (pv 3) pa_nil)))))
        (pss_cons (ps_par3 (i := 5) (j := 6) (l := 7) (by rfl) scLaw.nd rfl rfl rfl (by decide) (by decide) (by decide) rfl rfl rfl (pa_cons (pe_cg D__law_walked G__law_walked hr (by omega) (pa_cons (pv 4) pa_nil)) (pa_cons (pe_cg D__law_drawn G__law_drawn hr (by omega) (pa_cons (pv 1) (pa_cons (pe_op op_add pe_int (pe_cg D__law_pull G__law_pull hr (by omega) (pa_cons (pv 1) (pa_cons pe_int pa_nil)))) (pa_cons (pe_op op_cat (pv 3) (pe_lst (pa_cons pe_str pa_nil))) pa_nil)))) (pa_cons (pe_cg D__law_drawn G__law_drawn hr (by omega) (pa_cons (pv 1) (pa_cons (pe_op op_add pe_int (pe_cg D__law_pull G__law_pull hr (by omega) (pa_cons (pv 1) (pa_cons pe_int pa_nil)))) (pa_cons (pv 3) pa_nil)))) pa_nil))) (by rfl))
        (pss_cons (ps_for PassesOwn.never rfl (pi_range1 (by rfl) T.b_range (pa_cons pe_int pa_nil)) (pg_name (i := 8) scLaw.nd rfl (.inl rfl))
          (pss_cons (ps_if (pt_not (pt_val (pe_cg D__law_part_right G__law_part_right hr (by omega) (pa_cons (pv 1) (pa_cons (pv 4) (pa_cons (pe_ix ix_tup (pe_cg D__law_some G__law_some hr (by omega) (pa_cons (pv 1) (pa_cons (pv 5) pa_nil))) pe_int (fun _ _ => rfl)) (pa_cons (pe_cg D__law_some G__law_some hr (by omega) (pa_cons (pv 1) (pa_cons (pe_lst (pa_cons (pv 6) (pa_cons (pv 7) (pa_cons (pe_ix ix_list (pv 3) pe_int (fun _ _ => rfl)) pa_nil)))) pa_nil))) pa_nil))))))) (pss_one (ps_ret pe_bl)) pss_nil)
          (pss_one (ps_if (pt_not (pt_val (pe_cg D__law_two_right G__law_two_right hr (by omega) (pa_cons (pv 1) (pa_cons (pv 4) (pa_cons (pv 5) (pa_cons (pv 6) (pa_cons (pv 7) pa_nil)))))))) (pss_one (ps_ret pe_bl)) pss_nil))))
        (pss_one (ps_if (pt_not (pt_val (pe_cg D__law_part_right G__law_part_right hr (by omega) (pa_cons (pv 1) (pa_cons (pv 4) (pa_cons (pe_tup pa_nil) (pa_cons (pv 6) pa_nil))))))) (pss_one (ps_ret pe_bl)) pss_nil)))))))
      (pss_cons (ps_if (pt_cmpR op_gt (pe_cg D__law_pull G__law_pull hr (by omega) (pa_cons (pv 1) (pa_cons pe_int pa_nil))) pe_int (nomark _)) (pss_one (ps_ret (pe_cmpR (op_eqD hr.units) (pe_cg D_with_part G_with_part hr (by omega) (pa_cons (pe_tup (pa_cons pe_str (pa_cons pe_str (pa_cons pe_str pa_nil)))) (pa_cons (pe_tup (pa_cons pe_int pa_nil)) (pa_cons pe_str pa_nil)))) (pe_tup (pa_cons pe_str (pa_cons pe_str (pa_cons pe_str pa_nil)))) (nomark _)))) pss_nil)
      (pss_cons (ps_set (i := 9) scLaw.nd rfl (.inl rfl) (pe_cg D__law_drawn G__law_drawn hr (by omega) (pa_cons (pv 1) (pa_cons (pe_op op_sub pe_int (pe_cg D__law_pull G__law_pull hr (by omega) (pa_cons (pv 1) (pa_cons pe_int pa_nil)))) (pa_cons (pe_lst (pa_cons pe_str (pa_cons pe_str (pa_cons pe_str pa_nil)))) pa_nil)))))
      (pss_one (ps_ret (pe_cg D__law_part_right G__law_part_right hr (by omega) (pa_cons (pv 1) (pa_cons (pv 9) (pa_cons (pe_ix ix_tup (pe_cg D__law_some G__law_some hr (by omega) (pa_cons (pv 1) (pa_cons (pe_cg D__law_walked G__law_walked hr (by omega) (pa_cons (pv 9) pa_nil)) pa_nil))) pe_int (fun _ _ => rfl)) (pa_cons (pe_tup (pa_cons pe_str (pa_cons pe_str (pa_cons (pe_tup (pa_cons pe_str (pa_cons pe_str (pa_cons pe_str pa_nil)))) pa_nil)))) pa_nil))))))))))), ?_⟩
  refine ⟨_, rfl, sa, ns, rfl, hS, hl, fun p c H1 _ _ hp => ?_⟩
  refine ⟨4, rfl, by decide, by decide, ?_⟩
  refine for_range (lo := 0) (n := 4) (fun i σ H' => (∃ v2 v3 v4 v5 v6 v7 v8, σ = [some (.ref sa), some (.ref p), v2, v3, v4, v5, v6, v7, v8, none]) ∧ PenAt (1000 * i) H' p c) ⟨⟨_, _, _, _, _, _, _, rfl⟩, hp⟩ ?_ ?_
  · rintro i σ H0 hi ⟨⟨v2, v3, v4, v5, v6, v7, v8, rfl⟩, hpi⟩
    refine ⟨_, rfl, (by show 2 ≤ sizeLine; decide), fun l1 h1 => ⟨(by show 3 ≤ sizeLine; decide), fun l2 h2 => ⟨(by show 2 ≤ sizeLine; decide), fun l3 h3 => ⟨(by show 1 ≤ sizeLine; decide), fun l4 h4 => ⟨(by show 4 ≤ sizeLine; decide), fun L hL => ?_⟩⟩⟩⟩⟩
    have t1 := same_new (o := .lst [.str "x", .str "y"]) h1
    have t2 := t1.trans (same_new (o := .lst [.str "f", .str "x", .str "y"]) h2)
    have t3 := t2.trans (same_new (o := .lst [.str "abcdefghijkl", .str "a"]) h3)
    have t4 := t3.trans (same_new (o := .lst [.str "x"]) h4)
    have t5 := t4.trans (same_new (o := .lst [.ref l1, .ref l2, .ref l3, .ref l4]) hL)
    have g4 := same_new (o := .lst [.ref l1, .ref l2, .ref l3, .ref l4]) hL l4 _ upd_same
    have g3 := same_new (o := .lst [.ref l1, .ref l2, .ref l3, .ref l4]) hL l3 _ (same_new h4 l3 _ upd_same)
    have g2 := same_new (o := .lst [.ref l1, .ref l2, .ref l3, .ref l4]) hL l2 _ (same_new h4 l2 _ (same_new h3 l2 _ upd_same))
    have g1 := same_new (o := .lst [.ref l1, .ref l2, .ref l3, .ref l4]) hL l1 _ (same_new h4 l1 _ (same_new h3 l1 _ (same_new h2 l1 _ upd_same)))
    have n1 := hpi.ne h1
    have n2 := (hpi.same t1).ne h2
    have n3 := (hpi.same t2).ne h3
    have n4 := (hpi.same t3).ne h4
    have nL := (hpi.same t4).ne hL
    refine ⟨p, c, L, _, 1000 * i, rfl, hpi.same t5, by omega, nL, upd_same, by simp, by show 4 ≤ 1000000; decide, fun v G hv kv hpv => ?_⟩
    have hN : Nms p G v := by
      rcases List.mem_cons.mp hv with rfl | hv
      · exact Nms.keep ⟨l1, ["x", "y"], rfl, n1, g1, by decide, by decide, by decide +kernel⟩ kv
      rcases List.mem_cons.mp hv with rfl | hv
      · exact Nms.keep ⟨l2, ["f", "x", "y"], rfl, n2, g2, by decide, by decide, by decide +kernel⟩ kv
      rcases List.mem_cons.mp hv with rfl | hv
      · exact Nms.keep ⟨l3, ["abcdefghijkl", "a"], rfl, n3, g3, by decide, by decide, by decide +kernel⟩ kv
      cases List.mem_singleton.mp hv
      exact Nms.keep ⟨l4, ["x"], rfl, n4, g4, by decide, by decide, by decide +kernel⟩ kv
    obtain ⟨l, names, rfl, nl, hln, hne, hlen, hok⟩ := hN
    refine ⟨_, rfl, _, rfl, p, c, 20, _, rfl, hpv, by omega, Dv.of (by decide) (by decide), fun r G1 r0 r1 k1 hp1 => ⟨_, _, rfl, rfl, _, rfl, p, c, l, (1 + r).toNat, names, 1000 * i + 1 + 1, ?_, hp1, by omega, by omega, by omega, by omega, nl, k1 l _ nl hln, hne, by omega, fun vw wr G2 hw sw lw aw k2 hp2 => ?_⟩⟩
    · show [V.ref p, V.int (1 + r), V.ref l] = [V.ref p, V.int (((1 + r).toNat : Nat) : Int), V.ref l]
      rw [Int.toNat_of_nonneg (by omega)]
    have okW := nms_ok hok aw
    have lyW := wr.ly_sg
    have sgW : wr.sg ≤ 20 := by omega
    have hl2 := k2 l _ nl (k1 l _ nl hln)
    have hp2 := hp2.up (m := 1000 * i + 100) (by omega)
    clear g1 g2 g3 g4 t1 t2 t3 t4 t5 hp1 hpv k1 k2 kv hln sw lw
    refine ⟨_, rfl, vw, wr, rfl, hw, by omega, fun LW ts G3 s3 lw0 hLW hR => ?_⟩
    have nLW := hp2.ne lw0
    have hp3 := hp2.same s3
    have hl3 := s3 _ _ hl2
    have hw3 := hw.same s3
    refine ⟨_, rfl, _, rfl, p, c, 6, _, rfl, hp3, by omega, Dv.of (by decide) (by decide), fun ru G4 u0 u1 k4 hp4 => ⟨_, _, rfl, rfl, _, rfl, (by show 1 ≤ sizeLine; decide), fun z hz => ?_⟩⟩
    have hl4 := k4 l _ nl hl3
    have x5 := same_new (o := .lst [.str "z"]) hz
    refine ⟨l, z, _, _, rfl, rfl, x5 _ _ hl4, upd_same, by rw [List.length_map]; exact Nat.le_of_lt (small_le (show _ + 1 ≤ 1000000 by omega)), fun LZ hLZ => ?_⟩
    have x6 := x5.trans (same_new (o := .lst (names.map V.str ++ [.str "z"])) hLZ)
    have nLZ := (hp4.same x5).ne hLZ
    have hp6 := hp4.same x6
    refine ⟨p, c, LZ, (1 + ru).toNat, names ++ (["z"] : List Str), 1000 * i + 101, ?_, hp6, by omega, by omega, by omega, by omega, nLZ, by rw [upd_same, List.map_append]; rfl, by simp, by rw [List.length_append]; show _ + 1 ≤ _; omega, fun vu wu G7 hu su lu au k7 hp7 => ?_⟩
    · show [V.ref p, V.int (1 + ru), V.ref LZ] = [V.ref p, V.int (((1 + ru).toNat : Nat) : Int), V.ref LZ]
      rw [Int.toNat_of_nonneg (by omega)]
    have k37 := (k4.trans (Keep.of_same x6)).trans k7
    have okU : wu.all okN = true := nms_ok (ns := names ++ (["z"] : List Str)) (by rw [List.all_append, hok]; decide +kernel) au
    have sgU : wu.sg ≤ 10 := by omega
    have hl7 := k37 l _ nl hl3
    refine ⟨_, rfl, _, rfl, p, c, 4, _, rfl, hp7, by omega, Dv.of (by decide) (by decide), fun ro G8 o0 o1 k8 hp8 => ⟨_, _, rfl, rfl, _, rfl, p, c, l, (1 + ro).toNat, names, 1000 * i + 101 + 4 * (1 + ru).toNat + 1, ?_, hp8, by omega, by omega, by omega, by omega, nl, k8 l _ nl hl7, hne, by omega, fun vo wo G9 ho so lo ao k9 hp9 => ⟨_, _, _, rfl, ?_⟩⟩⟩
    · show [V.ref p, V.int (1 + ro), V.ref l] = [V.ref p, V.int (((1 + ro).toNat : Nat) : Int), V.ref l]
      rw [Int.toNat_of_nonneg (by omega)]
    have okO := nms_ok hok ao
    have sgO : wo.sg ≤ 10 := by omega
    have k79 := k8.trans k9
    have k39 := k37.trans k79
    have hw9 := WA.keep hw3 hp3 k39
    have hu9 := WA.keep hu hp7 k79
    have hR9 := hR.tk (keep_tk hp3 k39)
    have hL9 := k39 LW _ nLW hLW
    have hl9 := k39 l _ nl hl3
    have hp9 := hp9.up (m := 1000 * i + 200) (by omega)
    clear hw hw3 hu hR hLW hl2 hl3 hl4 hl7 hp3 hp4 hp6 hp7 hp8 k4 k7 k8 k9 k37 k79 k39 x5 x6 s3 so lo su lu hp2
    obtain ⟨n0, rest, rfl⟩ : ∃ n0 rest, names = n0 :: rest := by
      cases names with
      | nil => exact absurd rfl hne
      | cons a b => exact ⟨a, b, rfl⟩
    obtain ⟨neL, lenL⟩ := hR9.ne
    refine ⟨3, rfl, by decide, by decide, ?_⟩
    refine for_range (lo := 0) (n := 3) (fun j σ H' => (∃ v8', σ = [some (.ref sa), some (.ref p), some (.int (0 + (i : Int))), some (.ref l), some vw, some (.ref LW), some vu, some vo, v8', none]) ∧ Keep p G9 H' ∧ PenAt (1000 * i + 200 + 10 * j) H' p c) ⟨⟨_, rfl⟩, Keep.refl _ _, hp9⟩ ?_ ?_
    · rintro j σ H2 hj ⟨⟨v8', rfl⟩, kg, hpj⟩
      have tkg := keep_tk hp9 kg
      refine ⟨_, rfl, _, rfl, _, rfl, _, rfl, p, c, LW, _, _, rfl, hpj, by omega, nLW, kg _ _ nLW hL9, neL, by omega, fun x1 H3 hx1 k1 hp1 => ?_⟩
      have tk1 := tkg.trans (keep_tk hpj k1)
      obtain ⟨t1, a1, v1, p1, s1, rfl, ht1, hpl1, at1⟩ := pair_of (hR9.tk tk1) hx1
      have kg1 := kg.trans k1
      refine ⟨t1, _, _, .ref a1, rfl, rfl, SqT.of ht1, rfl, ?_⟩
      refine ⟨_, rfl, _, rfl, _, rfl, _, rfl, l, _, _, .str n0, rfl, rfl, SqL.of (kg1 _ _ nl hl9), atI_nat (j := 0) rfl, (by show 3 ≤ sizeLine; decide), fun LL hLL => ?_⟩
      have x4 := same_new (o := .lst [vu, vo, .str n0]) hLL
      refine ⟨p, c, LL, _, _, rfl, hp1.same x4, by omega, hp1.ne hLL, upd_same, by simp, by show 3 ≤ 1000000; decide, fun y H5 hy k5 hp5 => ?_⟩
      have tk5 := (TupKeep.of_same x4).trans (keep_tk (hp1.same x4) k5)
      have tk15 := tk1.trans tk5
      have hy2 : ∃ wy, WA H5 y wy ∧ wy.all okN = true ∧ wy.sg ≤ 10 := by
        rcases List.mem_cons.mp hy with rfl | hy
        · exact ⟨wu, hu9.mono tk15, okU, sgU⟩
        rcases List.mem_cons.mp hy with rfl | hy
        · exact ⟨wo, ho.mono tk15, okO, sgO⟩
        rw [List.mem_singleton.mp hy]
        exact ⟨.nm n0, .nm n0, (Bool.and_eq_true_iff.mp hok).1, by show 1 ≤ 10; decide⟩
      obtain ⟨wy, hwy, oky, sgy⟩ := hy2
      refine ⟨.ref p, vw, a1, y, wr, wy, s1, p1, rfl, hw9.mono tk15, okW, by omega, by omega, hwy, oky, sgy, PlaceT.tk hpl1 tk5, at1, fun H6 s6 => ⟨_, rfl, iteF ?_⟩⟩
      have kg6 := ((kg1.trans (Keep.of_same x4)).trans k5).trans (Keep.of_same s6)
      have tk6 := tk15.trans (.of_same s6)
      have hp6 := hp5.same s6
      refine ⟨_, rfl, _, rfl, _, rfl, _, rfl, _, rfl, p, c, vw, LW, vu, vo, wr, wu, wo, ts, _, rfl, hp6, by omega, nLW, hw9.mono tk6, okW, by omega, hu9.mono tk6, okU, sgU, ho.mono tk6, okO, sgO, kg6 _ _ nLW hL9, hR9.tk tk6, fun H7 k7 hp7 => ⟨_, rfl, iteF ?_⟩⟩
      exact ⟨⟨_, rfl⟩, kg6.trans k7, hp7.up (by omega)⟩
    · rintro σ H2 ⟨⟨v8', rfl⟩, kg, hpj⟩
      have tkg := keep_tk hp9 kg
      refine ⟨_, rfl, _, rfl, (by show 0 ≤ sizeLine; exact Nat.zero_le _), fun e he => ?_⟩
      have x3 := same_new (o := .tup []) he
      refine ⟨_, rfl, .ref p, vw, e, vu, wr, wu, wr, [], rfl, (hw9.mono tkg).same x3, okW, by omega, by omega, (hu9.mono tkg).same x3, okU, sgU, by unfold PlaceT; exact upd_same, atP_nil wr, fun H4 s4 => ⟨_, rfl, iteF ?_⟩⟩
      exact ⟨⟨_, _, _, _, _, _, _, rfl⟩, (hpj.same (x3.trans s4)).up (by omega)⟩
  · rintro σ H0 ⟨⟨v2, v3, v4, v5, v6, v7, v8, rfl⟩, hp0⟩
    refine ⟨_, rfl, p, c, 3, _, rfl, hp0, by omega, Dv.of (by decide) (by decide), fun r G1 r0 r1 k1 hp1 => ?_⟩
    have okx : okN "x" = true := by decide +kernel
    have oky : okN "y" = true := by decide +kernel
    have ok1 : (Wr.of "x" (.nm "y")).all okN = true := by show (okN "x" && okN "y") = true; rw [okx, oky]; rfl
    have ok2 : (Wr.of "x" (.nm "x")).all okN = true := by show (okN "x" && okN "x") = true; rw [okx]; rfl
    have ok3 : (Wr.of "x" (.to (.nm "x") (.nm "y"))).all okN = true := by show (okN "x" && (okN "x" && okN "y")) = true; rw [okx, oky]; rfl
    refine ⟨_, _, rfl, rfl, _, rfl, ite2 (fun _ => ?_) (fun _ => ?_)⟩
    · refine ⟨(by show 3 ≤ sizeLine; decide), fun a1 h1 => ⟨(by show 1 ≤ sizeLine; decide), fun a2 h2 => ?_⟩⟩
      have x1 := new_same (o := .tup [.int 0]) h2
      refine with_at (w := .of "x" (.nm "y")) (t := .nm "x") (s := .nm "y") (p := [0]) (.of (x1 _ _ upd_same) (.nm _)) ok1 (by decide) (.nm _) okx (by decide) rfl (by unfold PlaceT; exact upd_same) fun v' H3 s3 h3 ok' _ _ => ?_
      refine ⟨(by show 3 ≤ sizeLine; decide), fun a3 ha3 => ?_⟩
      have h3 : WA H3 v' (.of "x" (.nm "x")) := h3
      have wb : WA (L2.upd H3 a3 (.tup [.str "of", .str "x", .str "x"])) (.ref a3) (.of "x" (.nm "x")) := .of upd_same (.nm _)
      refine ⟨_, _, (h3.same (new_same ha3)).dp, wb.dp, wd_shaped ok2 (by decide), wd_shaped ok2 (by decide), ?_⟩
      rw [wd_self]
      exact q _
    · have okn : (["x", "y", "f"] : List Str).all okN = true := by decide +kernel
      refine ⟨_, rfl, _, rfl, p, c, 9, _, rfl, hp1, by omega, Dv.of (by decide) (by decide), fun r2 G2 r20 r21 k2 hp2 => ⟨_, _, rfl, rfl, (by show 3 ≤ sizeLine; decide), fun LN hLN => ?_⟩⟩
      have x3 := same_new (o := .lst [.str "x", .str "y", .str "f"]) hLN
      refine ⟨p, c, LN, (190 - r2).toNat, ["x", "y", "f"], 1000 * 4 + 1 + 1, ?_, hp2.same x3, by omega, by omega, by omega, by omega, hp2.ne hLN, upd_same, by decide, by decide, fun vg wg G4 hg sg lg ag k4 hp4 => ?_⟩
      · show [V.ref p, V.int (190 - r2), V.ref LN] = [V.ref p, V.int (((190 - r2).toNat : Nat) : Int), V.ref LN]
        rw [Int.toNat_of_nonneg (by omega)]
      unfold LyP at lg
      have okg := nms_ok okn ag
      refine ⟨_, rfl, _, rfl, _, rfl, _, rfl, vg, wg, rfl, hg, by omega, fun LW ts G5 s5 lw0 hLW hR => ?_⟩
      obtain ⟨neL, lenL⟩ := hR.ne
      have hp5 := hp4.same s5
      refine ⟨p, c, LW, _, _, rfl, hp5, by omega, hp4.ne lw0, hLW, neL, by omega, fun x6 G6 hx k6 hp6 => ?_⟩
      have tk6 := keep_tk hp5 k6
      obtain ⟨t1, a1, v1, p1, s1, rfl, ht1, hpl1, at1⟩ := pair_of (hR.tk tk6) hx
      refine ⟨t1, _, _, .ref a1, rfl, rfl, SqT.of ht1, rfl, (by show 3 ≤ sizeLine; decide), fun b1 hb1 => ⟨(by show 3 ≤ sizeLine; decide), fun b2 hb2 => ?_⟩⟩
      have y1 := new_same (o := .tup [.str "to", .str "x", .str "y"]) hb1
      have y2 := new_same (o := .tup [.str "of", .str "x", .ref b1]) hb2
      have hwB : WA (L2.upd (L2.upd G6 b1 (.tup [.str "to", .str "x", .str "y"])) b2 (.tup [.str "of", .str "x", .ref b1])) (.ref b2) (.of "x" (.to (.nm "x") (.nm "y"))) := .of upd_same (.to (y2 _ _ upd_same) (.nm _) (.nm _))
      exact ⟨.ref p, vg, a1, .ref b2, wg, _, s1, p1, rfl, (((hg.same s5).mono tk6).same y1).same y2, okg, by omega, by omega, hwB, ok3, by decide, y2 _ _ (y1 _ _ hpl1), at1, fun H6 _ => q _⟩
end
end TF07
namespace TF07
open PySem PySem.Spec L2 TG TA
open PyProof.Rows hiding St
section
variable {K : PySem.W.Frag} {x qual : Str} {st : Stmt} {f : Addr} {fd : FuncData} {ps ks : List Str} {n : Nat}
theorem fun_kb {g : List Value → List Value → List Value} {gV : List V → List V → List V} (F : Fun K x qual st f fd)
    (h : ∀ (kV doc pm : Value) (an : Option Addr) (cdv ct : Value) (us ws : List Value), us.length = n → ws.length = ks.length → bindArgs (PySem.W.fnOf x qual (defArgs st) (defBody st) (defScope st) .none kV doc pm an cdv ct) ⟨us, ks.zip ws⟩ = pure (ps.zip (g us ws)))
    (r : ∀ {vs : List V} {us : List Value} {zs : List V} {ws : List Value}, Vals vs us → Vals zs ws → Vals (gV vs zs) (g us ws)) : KBn K fd ps n ks g gV := by
  obtain ⟨oc, od, kV, doc, pm, an, cdv, ct, osl, rfl, lk, hcd⟩ := F.ex
  exact ⟨fun s us ws _ h1 h2 => .of_eq (h kV doc pm an cdv ct us ws h1 h2), r⟩
end
theorem all_mk {l : PySem.W.OpenLaw} {w : World} {K : PySem.W.Frag} {h : Heap} {mg : Str → Option Value} {fa : Addr} (X : K.In h) (G : h.Ns mainGlobals mg) (hfa : mg "law" = some (.ref fa))
    {tL tD tM tN1 tN2 tO tT tQ tP1 tP2 tP3 : Tok} {aN aP : Addr} {nn nP : Nat} {odN : Option Addr} {oslN : Array (Option Value)} {esP : Array DictEntry}
    {CL : Addr}
    {f5 : Addr} {d5 : FuncData}
    {f6 : Addr} {d6 : FuncData}
    {f7 : Addr} {d7 : FuncData}
    {f15 : Addr} {d15 : FuncData}
    {f21 : Addr} {d21 : FuncData}
    {f22 : Addr} {d22 : FuncData}
    {f23 : Addr} {d23 : FuncData}
    {f20 : Addr} {d20 : FuncData}
    {f24 : Addr} {d24 : FuncData}
    {f28 : Addr} {d28 : FuncData}
    {f29 : Addr} {d29 : FuncData}
    {f25 : Addr} {d25 : FuncData}
    {f26 : Addr} {d26 : FuncData}
    {f37 : Addr} {d37 : FuncData}
    {f30 : Addr} {d30 : FuncData}
    {f33 : Addr} {d33 : FuncData}
    {f27 : Addr} {d27 : FuncData}
    {f32 : Addr} {d32 : FuncData}
    {f34 : Addr} {d34 : FuncData}
    {f35 : Addr} {d35 : FuncData}
    {f39 : Addr} {d39 : FuncData}
    {f40 : Addr} {d40 : FuncData}
    {f41 : Addr} {d41 : FuncData}
    {f42 : Addr} {d42 : FuncData}
    {f43 : Addr} {d43 : FuncData}
    {f44 : Addr} {d44 : FuncData}
    {f45 : Addr} {d45 : FuncData}
    {f46 : Addr} {d46 : FuncData}
    {f47 : Addr} {d47 : FuncData}
    {f48 : Addr} {d48 : FuncData}
    {f49 : Addr} {d49 : FuncData}
    (b_ValueError : PySem.W.nsIn K mainGlobals "ValueError" = some none)
    (b_abs : PySem.W.nsIn K mainGlobals "abs" = some none)
    (b_all : PySem.W.nsIn K mainGlobals "all" = some none)
    (b_bool : PySem.W.nsIn K mainGlobals "bool" = some none)
    (b_enumerate : PySem.W.nsIn K mainGlobals "enumerate" = some none)
    (b_int : PySem.W.nsIn K mainGlobals "int" = some none)
    (b_isinstance : PySem.W.nsIn K mainGlobals "isinstance" = some none)
    (b_len : PySem.W.nsIn K mainGlobals "len" = some none)
    (b_list : PySem.W.nsIn K mainGlobals "list" = some none)
    (b_range : PySem.W.nsIn K mainGlobals "range" = some none)
    (b_repr : PySem.W.nsIn K mainGlobals "repr" = some none)
    (b_reversed : PySem.W.nsIn K mainGlobals "reversed" = some none)
    (b_sorted : PySem.W.nsIn K mainGlobals "sorted" = some none)
    (b_str : PySem.W.nsIn K mainGlobals "str" = some none)
    (b_tuple : PySem.W.nsIn K mainGlobals "tuple" = some none)
    (vL : PySem.W.nsIn K mainGlobals "LETTERS" = some (some (.str "abcdefghijklmnopqrstuvwxyz" tL)))
    (vD : PySem.W.nsIn K mainGlobals "DIGITS" = some (some (.str "0123456789" tD)))
    (vM : PySem.W.nsIn K mainGlobals "LONGEST_NAME" = some (some (.int 12 tM)))
    (vN : PySem.W.nsIn K mainGlobals "NO_NAMES" = some (some (.ref aN)))
    (loN : K.lookup aN = some ⟨.type "tuple", odN, .seq #[.str "of" tN1, .str "to" tN2] nn, oslN⟩)
    (vO : PySem.W.nsIn K mainGlobals "OF" = some (some (.str "of" tO)))
    (vT : PySem.W.nsIn K mainGlobals "TO" = some (some (.str "to" tT)))
    (vQ : PySem.W.nsIn K mainGlobals "NAME" = some (some (.str "name" tQ)))
    (vP : PySem.W.nsIn K mainGlobals "PARTS" = some (some (.ref aP)))
    (loP : K.lookup aP = some ⟨.type "dict", none, .dict esP nP, #[]⟩)
    (klP : PySem.W.KeysLit w.params esP.toList)
    (smP : (aP == sysModules) = false)
    (p1 : PySem.W.nsIn K aP "of" = some (some (.int 1 tP1)))
    (p2 : PySem.W.nsIn K aP "to" = some (some (.int 2 tP2)))
    (p3 : PySem.W.nsIn K aP ">" = some (some (.int 2 tP3)))
    (p0 : PySem.W.nsIn K aP "name" = some none)
    (vY : PySem.W.nsIn K mainGlobals "Layout" = some (some (.ref CL)))
    (yg : PySem.W.plainGet K CL Str.empty = true)
    (yh : PySem.W.hasDictIn K CL = true)
    (yo : PySem.W.plainOver K CL = true)
    (ys : PySem.W.findIn K (.ref CL) "__setattr__" = some (some (.builtin "object.__setattr__")))
    (ym : PySem.W.makesIn K CL = true)
    (yk : PySem.W.keepIn K (.ref CL) = true)
    (yn0 : PySem.W.findIn K (.ref CL) "signs" = some none)
    (yn1 : PySem.W.findIn K (.ref CL) "ends" = some none)
    (yn2 : PySem.W.findIn K (.ref CL) "below" = some none)
    (yn3 : PySem.W.findIn K (.ref CL) "around" = some none)
    (yn4 : PySem.W.findIn K (.ref CL) "binders" = some none)
    (a5 : PySem.W.nsIn K mainGlobals "is_integer" = some (some (.ref f5)))
    (F5 : Fun K "is_integer" "is_integer" sInt f5 d5)
    (a6 : PySem.W.nsIn K mainGlobals "is_within" = some (some (.ref f6)))
    (F6 : Fun K "is_within" "is_within" sWithin f6 d6)
    (a7 : PySem.W.nsIn K mainGlobals "is_name" = some (some (.ref f7)))
    (F7 : Fun K "is_name" "is_name" sName f7 d7)
    (a15 : PySem.W.nsIn K mainGlobals "bounds_in" = some (some (.ref f15)))
    (F15 : Fun K "bounds_in" "bounds_in" sBounds f15 d15)
    (a21 : PySem.W.nsIn K mainGlobals "ofs_around" = some (some (.ref f21)))
    (F21 : Fun K "ofs_around" "ofs_around" sAround f21 d21)
    (a22 : PySem.W.nsIn K mainGlobals "binder_of" = some (some (.ref f22)))
    (F22 : Fun K "binder_of" "binder_of" sBinder f22 d22)
    (a23 : PySem.W.nsIn K mainGlobals "signs_in" = some (some (.ref f23)))
    (F23 : Fun K "signs_in" "signs_in" sSigns f23 d23)
    (a20 : PySem.W.findIn K (.ref CL) "__init__" = some (some (.ref f20)))
    (yf : PySem.W.isFn K (.ref f20) = true)
    (F20 : Fun K "__init__" "Layout.__init__" sLayI f20 d20)
    (a24 : PySem.W.nsIn K mainGlobals "laid_out" = some (some (.ref f24)))
    (F24 : Fun K "laid_out" "laid_out" sLaid f24 d24)
    (a28 : PySem.W.nsIn K mainGlobals "free_signs" = some (some (.ref f28)))
    (F28 : Fun K "free_signs" "free_signs" sFreeS f28 d28)
    (a29 : PySem.W.nsIn K mainGlobals "free_in" = some (some (.ref f29)))
    (F29 : Fun K "free_in" "free_in" sFreeI f29 d29)
    (a25 : PySem.W.nsIn K mainGlobals "built" = some (some (.ref f25)))
    (F25 : Fun K "built" "built" sBuilt f25 d25)
    (a26 : PySem.W.nsIn K mainGlobals "built_part" = some (some (.ref f26)))
    (F26 : Fun K "built_part" "built_part" sPart f26 d26)
    (a37 : PySem.W.nsIn K mainGlobals "free_names" = some (some (.ref f37)))
    (F37 : Fun K "free_names" "free_names" sFN f37 d37)
    (a30 : PySem.W.nsIn K mainGlobals "places_in" = some (some (.ref f30)))
    (F30 : Fun K "places_in" "places_in" sPlaces f30 d30)
    (a33 : PySem.W.nsIn K mainGlobals "index_at" = some (some (.ref f33)))
    (F33 : Fun K "index_at" "index_at" sIdx f33 d33)
    (a27 : PySem.W.nsIn K mainGlobals "with_built" = some (some (.ref f27)))
    (F27 : Fun K "with_built" "with_built" sWB f27 d27)
    (a32 : PySem.W.nsIn K mainGlobals "places_of" = some (some (.ref f32)))
    (F32 : Fun K "places_of" "places_of" sPlOf f32 d32)
    (a34 : PySem.W.nsIn K mainGlobals "part_at" = some (some (.ref f34)))
    (F34 : Fun K "part_at" "part_at" sPartAt f34 d34)
    (a35 : PySem.W.nsIn K mainGlobals "with_part" = some (some (.ref f35)))
    (F35 : Fun K "with_part" "with_part" sWith f35 d35)
    (a39 : PySem.W.nsIn K mainGlobals "_law_chest" = some (some (.ref f39)))
    (F39 : Fun K "_law_chest" "_law_chest" sPen f39 d39)
    (a40 : PySem.W.nsIn K mainGlobals "_law_pull" = some (some (.ref f40)))
    (F40 : Fun K "_law_pull" "_law_pull" sDraw f40 d40)
    (a41 : PySem.W.nsIn K mainGlobals "_law_some" = some (some (.ref f41)))
    (F41 : Fun K "_law_some" "_law_some" sPick f41 d41)
    (a42 : PySem.W.nsIn K mainGlobals "_law_drawn" = some (some (.ref f42)))
    (F42 : Fun K "_law_drawn" "_law_drawn" sDrawn f42 d42)
    (a43 : PySem.W.nsIn K mainGlobals "_law_listed" = some (some (.ref f43)))
    (F43 : Fun K "_law_listed" "_law_listed" sListed f43 d43)
    (a44 : PySem.W.nsIn K mainGlobals "_law_scanned" = some (some (.ref f44)))
    (F44 : Fun K "_law_scanned" "_law_scanned" sScan f44 d44)
    (a45 : PySem.W.nsIn K mainGlobals "_law_walked" = some (some (.ref f45)))
    (F45 : Fun K "_law_walked" "_law_walked" sWalk f45 d45)
    (a46 : PySem.W.nsIn K mainGlobals "_law_with" = some (some (.ref f46)))
    (F46 : Fun K "_law_with" "_law_with" sWth f46 d46)
    (a47 : PySem.W.nsIn K mainGlobals "_law_part_right" = some (some (.ref f47)))
    (F47 : Fun K "_law_part_right" "_law_part_right" sPRt f47 d47)
    (a48 : PySem.W.nsIn K mainGlobals "_law_two_right" = some (some (.ref f48)))
    (F48 : Fun K "_law_two_right" "_law_two_right" sTwo f48 d48)
    (a49 : PySem.W.nsIn K mainGlobals "law" = some (some (.ref f49)))
    (F49 : Fun K "law" "law" sLaw f49 d49)
    : ∃ fd : FuncData, (∀ (s : Shared) (v : Value), BindsTo s fd ⟨[v], []⟩ [("script", v)]) ∧ ∀ base : Heap, K.In base → base.Ns mainGlobals mg → FnG l.prog w K mg base CX0 208 fa fd ["script"] (spLaw K) := by
  have e := hfa.symm.trans (PySem.W.mg_of X G a49)
  cases e
  have T : Bn mg := ⟨PySem.W.mg_none_of X G b_ValueError, PySem.W.mg_none_of X G b_abs, PySem.W.mg_none_of X G b_all, PySem.W.mg_none_of X G b_bool, PySem.W.mg_none_of X G b_enumerate, PySem.W.mg_none_of X G b_int, PySem.W.mg_none_of X G b_isinstance, PySem.W.mg_none_of X G b_len, PySem.W.mg_none_of X G b_list, PySem.W.mg_none_of X G b_range, PySem.W.mg_none_of X G b_repr, PySem.W.mg_none_of X G b_reversed, PySem.W.mg_none_of X G b_sorted, PySem.W.mg_none_of X G b_str, PySem.W.mg_none_of X G b_tuple⟩
  have D_is_integer : Df K mg "is_integer" sInt f5 d5 ["value"] := ⟨F5, PySem.W.mg_of X G a5, F5.binds (ps := ["value"]) fun _ _ _ _ _ _ us hl => match us, hl with | [_], _ => rfl⟩
  have D_is_within : Df K mg "is_within" sWithin f6 d6 ["value", "least", "most"] := ⟨F6, PySem.W.mg_of X G a6, F6.binds (ps := ["value", "least", "most"]) fun _ _ _ _ _ _ us hl => match us, hl with | [_, _, _], _ => rfl⟩
  have D_is_name : Df K mg "is_name" sName f7 d7 ["value"] := ⟨F7, PySem.W.mg_of X G a7, F7.binds (ps := ["value"]) fun _ _ _ _ _ _ us hl => match us, hl with | [_], _ => rfl⟩
  have D_bounds_in : Df K mg "bounds_in" sBounds f15 d15 ["row"] := ⟨F15, PySem.W.mg_of X G a15, F15.binds (ps := ["row"]) fun _ _ _ _ _ _ us hl => match us, hl with | [_], _ => rfl⟩
  have D_ofs_around : Df K mg "ofs_around" sAround f21 d21 ["signs", "below"] := ⟨F21, PySem.W.mg_of X G a21, F21.binds (ps := ["signs", "below"]) fun _ _ _ _ _ _ us hl => match us, hl with | [_, _], _ => rfl⟩
  have D_binder_of : Df K mg "binder_of" sBinder f22 d22 ["signs", "around", "at"] := ⟨F22, PySem.W.mg_of X G a22, F22.binds (ps := ["signs", "around", "at"]) fun _ _ _ _ _ _ us hl => match us, hl with | [_, _, _], _ => rfl⟩
  have D_signs_in : Df K mg "signs_in" sSigns f23 d23 ["value"] := ⟨F23, PySem.W.mg_of X G a23, F23.binds (ps := ["value"]) fun _ _ _ _ _ _ us hl => match us, hl with | [_], _ => rfl⟩
  have D_laid_out : Df K mg "laid_out" sLaid f24 d24 ["value", "part"] := ⟨F24, PySem.W.mg_of X G a24, F24.binds (ps := ["value", "part"]) fun _ _ _ _ _ _ us hl => match us, hl with | [_, _], _ => rfl⟩
  have D_free_signs : Df K mg "free_signs" sFreeS f28 d28 ["layout"] := ⟨F28, PySem.W.mg_of X G a28, F28.binds (ps := ["layout"]) fun _ _ _ _ _ _ us hl => match us, hl with | [_], _ => rfl⟩
  have D_free_in : Df K mg "free_in" sFreeI f29 d29 ["layout"] := ⟨F29, PySem.W.mg_of X G a29, F29.binds (ps := ["layout"]) fun _ _ _ _ _ _ us hl => match us, hl with | [_], _ => rfl⟩
  have D_built : Df K mg "built" sBuilt f25 d25 ["signs"] := ⟨F25, PySem.W.mg_of X G a25, F25.binds (ps := ["signs"]) fun _ _ _ _ _ _ us hl => match us, hl with | [_], _ => rfl⟩
  have D_built_part : Df K mg "built_part" sPart f26 d26 ["layout", "at"] := ⟨F26, PySem.W.mg_of X G a26, F26.binds (ps := ["layout", "at"]) fun _ _ _ _ _ _ us hl => match us, hl with | [_, _], _ => rfl⟩
  have D_free_names : Df K mg "free_names" sFN f37 d37 ["writing"] := ⟨F37, PySem.W.mg_of X G a37, F37.binds (ps := ["writing"]) fun _ _ _ _ _ _ us hl => match us, hl with | [_], _ => rfl⟩
  have D_places_in : Df K mg "places_in" sPlaces f30 d30 ["layout"] := ⟨F30, PySem.W.mg_of X G a30, F30.binds (ps := ["layout"]) fun _ _ _ _ _ _ us hl => match us, hl with | [_], _ => rfl⟩
  have D_index_at : Df K mg "index_at" sIdx f33 d33 ["layout", "place"] := ⟨F33, PySem.W.mg_of X G a33, F33.binds (ps := ["layout", "place"]) fun _ _ _ _ _ _ us hl => match us, hl with | [_, _], _ => rfl⟩
  have D_with_built : Df K mg "with_built" sWB f27 d27 ["layout", "at", "part"] := ⟨F27, PySem.W.mg_of X G a27, F27.binds (ps := ["layout", "at", "part"]) fun _ _ _ _ _ _ us hl => match us, hl with | [_, _, _], _ => rfl⟩
  have D_places_of : Df K mg "places_of" sPlOf f32 d32 ["writing"] := ⟨F32, PySem.W.mg_of X G a32, F32.binds (ps := ["writing"]) fun _ _ _ _ _ _ us hl => match us, hl with | [_], _ => rfl⟩
  have D_part_at : Df K mg "part_at" sPartAt f34 d34 ["writing", "place"] := ⟨F34, PySem.W.mg_of X G a34, F34.binds (ps := ["writing", "place"]) fun _ _ _ _ _ _ us hl => match us, hl with | [_, _], _ => rfl⟩
  have D_with_part : Df K mg "with_part" sWith f35 d35 ["writing", "place", "part"] := ⟨F35, PySem.W.mg_of X G a35, F35.binds (ps := ["writing", "place", "part"]) fun _ _ _ _ _ _ us hl => match us, hl with | [_, _, _], _ => rfl⟩
  have D__law_chest : Df K mg "_law_chest" sPen f39 d39 ["script"] := ⟨F39, PySem.W.mg_of X G a39, F39.binds (ps := ["script"]) fun _ _ _ _ _ _ us hl => match us, hl with | [_], _ => rfl⟩
  have D__law_pull : Df K mg "_law_pull" sDraw f40 d40 ["chest", "many"] := ⟨F40, PySem.W.mg_of X G a40, F40.binds (ps := ["chest", "many"]) fun _ _ _ _ _ _ us hl => match us, hl with | [_, _], _ => rfl⟩
  have D__law_some : Df K mg "_law_some" sPick f41 d41 ["chest", "some"] := ⟨F41, PySem.W.mg_of X G a41, F41.binds (ps := ["chest", "some"]) fun _ _ _ _ _ _ us hl => match us, hl with | [_, _], _ => rfl⟩
  have D__law_drawn : Df K mg "_law_drawn" sDrawn f42 d42 ["chest", "signs", "names"] := ⟨F42, PySem.W.mg_of X G a42, F42.binds (ps := ["chest", "signs", "names"]) fun _ _ _ _ _ _ us hl => match us, hl with | [_, _, _], _ => rfl⟩
  have D__law_listed : Df K mg "_law_listed" sListed f43 d43 ["value"] := ⟨F43, PySem.W.mg_of X G a43, F43.binds (ps := ["value"]) fun _ _ _ _ _ _ us hl => match us, hl with | [_], _ => rfl⟩
  have D__law_scanned : Df K mg "_law_scanned" sScan f44 d44 ["writing"] := ⟨F44, PySem.W.mg_of X G a44, F44.binds (ps := ["writing"]) fun _ _ _ _ _ _ us hl => match us, hl with | [_], _ => rfl⟩
  have D__law_walked : Df K mg "_law_walked" sWalk f45 d45 ["writing"] := ⟨F45, PySem.W.mg_of X G a45, F45.binds (ps := ["writing"]) fun _ _ _ _ _ _ us hl => match us, hl with | [_], _ => rfl⟩
  have D__law_with : Df K mg "_law_with" sWth f46 d46 ["writing", "way", "part"] := ⟨F46, PySem.W.mg_of X G a46, F46.binds (ps := ["writing", "way", "part"]) fun _ _ _ _ _ _ us hl => match us, hl with | [_, _, _], _ => rfl⟩
  have D__law_part_right : Df K mg "_law_part_right" sPRt f47 d47 ["chest", "writing", "way", "part"] := ⟨F47, PySem.W.mg_of X G a47, F47.binds (ps := ["chest", "writing", "way", "part"]) fun _ _ _ _ _ _ us hl => match us, hl with | [_, _, _, _], _ => rfl⟩
  have D__law_two_right : Df K mg "_law_two_right" sTwo f48 d48 ["chest", "writing", "pairs", "part", "other"] := ⟨F48, PySem.W.mg_of X G a48, F48.binds (ps := ["chest", "writing", "pairs", "part", "other"]) fun _ _ _ _ _ _ us hl => match us, hl with | [_, _, _, _, _], _ => rfl⟩
  have B_with_part : KBn K d35 ["writing", "place", "part"] 0 ["part", "place", "writing"] (fun us ws => us ++ ws.reverse) (fun vs zs => vs ++ zs.reverse) := fun_kb F35 (fun _ _ _ _ _ _ us ws h1 h2 => match us, h1, ws, h2 with | [], _, [_, _, _], _ => rfl) (fun a b => a.append b.reverse)
  have hb : ∀ (s : Shared) (v : Value), BindsTo s d49 ⟨[v], []⟩ [("script", v)] := by
    obtain ⟨oc, od, kV, doc, pm, an, cdv, ct, osl, rfl, lk, hcd⟩ := F49.ex
    exact fun s v => .of_eq rfl
  refine ⟨d49, hb, fun base _ _ => ?_⟩
  have VC : Cn K mg := ⟨⟨_, PySem.W.mg_of X G vL⟩, ⟨_, PySem.W.mg_of X G vD⟩, ⟨_, PySem.W.mg_of X G vM⟩, ⟨_, PySem.W.mg_of X G vN, fun H => .inr ⟨_, _, _, loN, rfl, rfl, by show 2 ≤ sizeLine; decide, .cons ⟨_, rfl⟩ (.cons ⟨_, rfl⟩ .nil)⟩⟩⟩
  have VL : Lw mg := ⟨⟨_, PySem.W.mg_of X G vO⟩, ⟨_, PySem.W.mg_of X G vT⟩, ⟨_, PySem.W.mg_of X G vQ⟩⟩
  have VP : Pw K w mg := ⟨aP, PySem.W.mg_of X G vP, ⟨_, _, loP, klP, smP⟩, ⟨_, p1⟩, ⟨_, p2⟩, ⟨_, p3⟩, p0⟩
  have VY : LayC K mg CL f20 := ⟨⟨yg, yh, yo, ys⟩, yn0, yn1, yn2, yn3, yn4, PySem.W.mg_of X G vY, ⟨ym, a20, yf, yk⟩⟩
  have bLay := F20.binds (ps := ["self", "signs"]) fun _ _ _ _ _ _ us hl => match us, hl with | [_, _], _ => rfl
  have O_is_integer : FnOk l.prog w K mg base CX0 1 f5 d5 ["value"] (spIsInt K) := ok_isint F5 T 
  have O_is_within : FnOk l.prog w K mg base CX0 2 f6 d6 ["value", "least", "most"] (spWithin K) := ok_within F6 T D_is_integer O_is_integer
  have O_is_name : FnOk l.prog w K mg base CX0 3 f7 d7 ["value"] (spName K) := ok_name F7 T VC D_is_within O_is_within
  have O_bounds_in : FnOk l.prog w K mg base CX0 1 f15 d15 ["row"] spBounds := ok_bounds F15 T VP
  have O_ofs_around : FnOk l.prog w K mg base CX0 1 f21 d21 ["signs", "below"] spAround := ok_around F21 T VL
  have O_binder_of : FnOk l.prog w K mg base CX0 1 f22 d22 ["signs", "around", "at"] spBinder := ok_binder F22 T VL
  have O_signs_in : FnOk l.prog w K mg base CX0 4 f23 d23 ["value"] (spSigns K) := ok_signs_in F23 T VL D_is_name O_is_name
  have O_Layout : FnOk l.prog w K mg base CX0 2 f20 d20 ["self", "signs"] (spLayI CL) := ok_layI F20 T VY D_bounds_in O_bounds_in D_ofs_around O_ofs_around D_binder_of O_binder_of
  have O_laid_out : FnOk l.prog w K mg base CX0 5 f24 d24 ["value", "part"] (spLaid K CL) := ok_laid F24 T VY D_signs_in O_signs_in bLay O_Layout
  have O_free_signs : FnOk l.prog w K mg base CX0 1 f28 d28 ["layout"] (spFreeS CL) := ok_freeS F28 T VL VY
  have O_free_in : FnOk l.prog w K mg base CX0 2 f29 d29 ["layout"] (spFreeI CL) := ok_freeI F29 T VY D_free_signs O_free_signs
  have O_built : FnOk l.prog w K mg base CX0 1 f25 d25 ["signs"] spBuilt := ok_built F25 T VL
  have O_built_part : FnOk l.prog w K mg base CX0 2 f26 d26 ["layout", "at"] (spPart CL) := ok_part F26 T VY D_built O_built
  have O_free_names : FnOk l.prog w K mg base CX0 6 f37 d37 ["writing"] (spFree K) := ok_free F37 T D_laid_out O_laid_out D_free_in O_free_in
  have O_places_in : FnOk l.prog w K mg base CX0 1 f30 d30 ["layout"] (spPlaces CL) := ok_places F30 T VY
  have O_index_at : FnOk l.prog w K mg base CX0 3 f33 d33 ["layout", "place"] (spIdx K CL) := ok_idx F33 T VY D_is_within O_is_within
  have O_with_built : FnOk l.prog w K mg base CX0 2 f27 d27 ["layout", "at", "part"] (spWB CL) := ok_wb F27 T VL VY D_built O_built
  have O_places_of : FnOk l.prog w K mg base CX0 6 f32 d32 ["writing"] (spPlOf K) := ok_plOf F32 T VY D_laid_out O_laid_out D_places_in O_places_in
  have O_part_at : FnOk l.prog w K mg base CX0 6 f34 d34 ["writing", "place"] (spPartAt K) := ok_partAt F34 T VY D_laid_out O_laid_out D_index_at O_index_at D_built_part O_built_part
  have O_with_part : FnOk l.prog w K mg base CX0 6 f35 d35 ["writing", "place", "part"] (spWith K) := ok_with F35 T VY D_laid_out O_laid_out D_index_at O_index_at D_built_part O_built_part D_with_built O_with_built
  have G_with_part : FnG l.prog w K mg base CX0 100 f35 d35 ["writing", "place", "part"] (spWith K) := (fnG_of O_with_part).mono (by decide)
  have G_part_at : FnG l.prog w K mg base CX0 100 f34 d34 ["writing", "place"] (spPartAt K) := (fnG_of O_part_at).mono (by decide)
  have G_places_of : FnG l.prog w K mg base CX0 100 f32 d32 ["writing"] (spPlOf K) := (fnG_of O_places_of).mono (by decide)
  have G_free_names : FnG l.prog w K mg base CX0 100 f37 d37 ["writing"] (spFree K) := (fnG_of O_free_names).mono (by decide)
  have O__law_chest : FnOk l.prog w K mg base CX0 1 f39 d39 ["script"] (spPen K) := ok_pen F39 T
  have O__law_pull : FnOk l.prog w K mg base CX0 1 f40 d40 ["chest", "many"] spDraw := ok_draw F40 T
  have O__law_some : FnOk l.prog w K mg base CX0 2 f41 d41 ["chest", "some"] (spPick K) := ok_pick F41 T D__law_pull O__law_pull
  have G__law_drawn : FnG l.prog w K mg base CX0 207 f42 d42 ["chest", "signs", "names"] (spDrawn 200) := ok_drawn F42 T D__law_drawn D__law_pull (fnG_of O__law_pull) D__law_some (fnG_of O__law_some) 200
  have G__law_listed : FnG l.prog w K mg base CX0 201 f43 d43 ["value"] (spListed 200) := ok_listed F43 T D__law_listed 200
  have G__law_scanned : FnG l.prog w K mg base CX0 1 f44 d44 ["writing"] spScan := ok_scan F44 T
  have G__law_walked : FnG l.prog w K mg base CX0 1 f45 d45 ["writing"] spWalk := ok_walk F45 T
  have G__law_with : FnG l.prog w K mg base CX0 65 f46 d46 ["writing", "way", "part"] (spWth 64) := ok_wth F46 T D__law_with 64
  have G__law_part_right : FnG l.prog w K mg base CX0 202 f47 d47 ["chest", "writing", "way", "part"] spPRt := ok_PRt (n := 201) (by decide) F47 T D_with_part G_with_part B_with_part D_part_at G_part_at D_places_of G_places_of D_free_names G_free_names D__law_listed G__law_listed D__law_scanned G__law_scanned D__law_walked G__law_walked D__law_with G__law_with
  have G__law_two_right : FnG l.prog w K mg base CX0 101 f48 d48 ["chest", "writing", "pairs", "part", "other"] spTwo := ok_two (n := 100) (by decide) F48 T D_with_part G_with_part D__law_some (fnG_of O__law_some) D__law_walked G__law_walked
  exact ok_law (n := 207) (by decide) F49 T D__law_chest (fnG_of O__law_chest) D__law_pull (fnG_of O__law_pull) D__law_some (fnG_of O__law_some) D__law_drawn G__law_drawn D__law_walked G__law_walked D__law_part_right G__law_part_right D__law_two_right G__law_two_right D_with_part G_with_part
theorem walk {l : PySem.W.OpenLaw} {q : Program} {loose : List Str} {XP : (Str → Option Value) → Heap → Prop} {YP : World → Heap → Prop} {d : DefRec} {K : Params → PySem.W.Frag} (hn : l.most = some 63) (hdf : d.params.defaults = [])
    (hY : ∀ (w : World) (h : Heap), YP w h → (K w.params).In h)
    (F : ∀ (w : World) (mg : Str → Option Value) (fa : Addr) (h : Heap), (K w.params).In h → h.Ns mainGlobals mg → mg d.name = some (.ref fa) →
      ∃ fd : FuncData, (∀ (s : Shared) (u : Value), BindsTo s fd ⟨[u], []⟩ [("script", u)]) ∧ ∀ base : Heap, (K w.params).In base → base.Ns mainGlobals mg → FnG l.prog w (K w.params) mg base CX0 208 fa fd ["script"] (spLaw (K w.params))) :
    PySem.W.WalkO q loose XP YP l.row.toRowW d [] (fun f vs => PySem.call f vs) :=
  TG.walk_ofG (n := 63) (k := 208) (x := "script") (sp := fun w => spLaw (K w.params)) hn (by decide) hdf ⟨rfl, by decide, by decide, rfl⟩ hY F (fun (_ : World) _ a ns hl _ hS => ⟨a, ns, rfl, hS, hl, fun _ => rfl⟩)
end TF07
open PySem PySem.W PyProof.Rows
set_option maxRecDepth 100000 in
set_option maxHeartbeats 0 in
theorem PySem.Challenge.cw_timesagain_k07_parts_in_the_place_of_par_holds : PySem.Challenge.rw_timesagain_k07_parts_in_the_place_of_par.Holds := by
  w_on; o_law; k_head; (case hw => w_witness2)
  k_fill
  refine TF07.walk (l := PySem.Challenge.rw_timesagain_k07_parts_in_the_place_of_par) rfl rfl (fun w h Y => PySem.W.kIn_of Y) ?F
  case F =>
    intro w mg fa h KX G hmg
    refine' TF07.all_mk KX G hmg
      ?b_ValueError ?b_abs ?b_all ?b_bool ?b_enumerate ?b_int ?b_isinstance ?b_len ?b_list ?b_range ?b_repr ?b_reversed ?b_sorted ?b_str ?b_tuple ?vL ?vD ?vM ?vN ?loN ?vO ?vT ?vQ
      ?vP ?loP ?klP ?smP ?p1 ?p2 ?p3 ?p0 ?vY ?yg ?yh ?yo ?ys ?ym ?yk ?yn0 ?yn1 ?yn2 ?yn3 ?yn4 ?a5 (L2.fun_mk ?l5 ?c5 ?k5) ?a6 (L2.fun_mk ?l6 ?c6 ?k6) ?a7 (L2.fun_mk ?l7 ?c7 ?k7)
      ?a15 (L2.fun_mk ?l15 ?c15 ?k15) ?a21 (L2.fun_mk ?l21 ?c21 ?k21) ?a22 (L2.fun_mk ?l22 ?c22 ?k22) ?a23 (L2.fun_mk ?l23 ?c23 ?k23) ?a20 ?yf (L2.fun_mk ?l20 ?c20 ?k20) ?a24
      (L2.fun_mk ?l24 ?c24 ?k24) ?a28 (L2.fun_mk ?l28 ?c28 ?k28) ?a29 (L2.fun_mk ?l29 ?c29 ?k29) ?a25 (L2.fun_mk ?l25 ?c25 ?k25) ?a26 (L2.fun_mk ?l26 ?c26 ?k26) ?a37
      (L2.fun_mk ?l37 ?c37 ?k37) ?a30 (L2.fun_mk ?l30 ?c30 ?k30) ?a33 (L2.fun_mk ?l33 ?c33 ?k33) ?a27 (L2.fun_mk ?l27 ?c27 ?k27) ?a32 (L2.fun_mk ?l32 ?c32 ?k32) ?a34
      (L2.fun_mk ?l34 ?c34 ?k34) ?a35 (L2.fun_mk ?l35 ?c35 ?k35) ?a39 (L2.fun_mk ?l39 ?c39 ?k39) ?a40 (L2.fun_mk ?l40 ?c40 ?k40) ?a41 (L2.fun_mk ?l41 ?c41 ?k41) ?a42
      (L2.fun_mk ?l42 ?c42 ?k42) ?a43 (L2.fun_mk ?l43 ?c43 ?k43) ?a44 (L2.fun_mk ?l44 ?c44 ?k44) ?a45 (L2.fun_mk ?l45 ?c45 ?k45) ?a46 (L2.fun_mk ?l46 ?c46 ?k46) ?a47
      (L2.fun_mk ?l47 ?c47 ?k47) ?a48 (L2.fun_mk ?l48 ?c48 ?k48) ?a49 (L2.fun_mk ?l49 ?c49 ?k49)
    (case b_ValueError => k_is)
    (case b_abs => k_is)
    (case b_all => k_is)
    (case b_bool => k_is)
    (case b_enumerate => k_is)
    (case b_int => k_is)
    (case b_isinstance => k_is)
    (case b_len => k_is)
    (case b_list => k_is)
    (case b_range => k_is)
    (case b_repr => k_is)
    (case b_reversed => k_is)
    (case b_sorted => k_is)
    (case b_str => k_is)
    (case b_tuple => k_is)
    (case vL => k_is)
    (case vD => k_is)
    (case vM => k_is)
    (case vN => k_is)
    (case loN => k_is)
    (case vO => k_is)
    (case vT => k_is)
    (case vQ => k_is)
    (case vP => k_is)
    (case loP => k_is)
    (case klP => k_keys)
    (case smP => first | rfl | decide | decide +kernel)
    (case p1 => k_is)
    (case p2 => k_is)
    (case p3 => k_is)
    (case p0 => k_is)
    (case vY => k_is)
    (case yg => k_is)
    (case yh => k_is)
    (case yo => k_is)
    (case ys => k_is)
    (case ym => k_is)
    (case yk => k_is)
    (case yn0 => k_is)
    (case yn1 => k_is)
    (case yn2 => k_is)
    (case yn3 => k_is)
    (case yn4 => k_is)
    (case a5 => k_is)
    (case l5 => k_is)
    (case c5 => k_is)
    (case k5 => k_is)
    (case a6 => k_is)
    (case l6 => k_is)
    (case c6 => k_is)
    (case k6 => k_is)
    (case a7 => k_is)
    (case l7 => k_is)
    (case c7 => k_is)
    (case k7 => k_is)
    (case a15 => k_is)
    (case l15 => k_is)
    (case c15 => k_is)
    (case k15 => k_is)
    (case a21 => k_is)
    (case l21 => k_is)
    (case c21 => k_is)
    (case k21 => k_is)
    (case a22 => k_is)
    (case l22 => k_is)
    (case c22 => k_is)
    (case k22 => k_is)
    (case a23 => k_is)
    (case l23 => k_is)
    (case c23 => k_is)
    (case k23 => k_is)
    (case a20 => k_is)
    (case yf => k_is)
    (case l20 => k_is)
    (case c20 => k_is)
    (case k20 => k_is)
    (case a24 => k_is)
    (case l24 => k_is)
    (case c24 => k_is)
    (case k24 => k_is)
    (case a28 => k_is)
    (case l28 => k_is)
    (case c28 => k_is)
    (case k28 => k_is)
    (case a29 => k_is)
    (case l29 => k_is)
    (case c29 => k_is)
    (case k29 => k_is)
    (case a25 => k_is)
    (case l25 => k_is)
    (case c25 => k_is)
    (case k25 => k_is)
    (case a26 => k_is)
    (case l26 => k_is)
    (case c26 => k_is)
    (case k26 => k_is)
    (case a37 => k_is)
    (case l37 => k_is)
    (case c37 => k_is)
    (case k37 => k_is)
    (case a30 => k_is)
    (case l30 => k_is)
    (case c30 => k_is)
    (case k30 => k_is)
    (case a33 => k_is)
    (case l33 => k_is)
    (case c33 => k_is)
    (case k33 => k_is)
    (case a27 => k_is)
    (case l27 => k_is)
    (case c27 => k_is)
    (case k27 => k_is)
    (case a32 => k_is)
    (case l32 => k_is)
    (case c32 => k_is)
    (case k32 => k_is)
    (case a34 => k_is)
    (case l34 => k_is)
    (case c34 => k_is)
    (case k34 => k_is)
    (case a35 => k_is)
    (case l35 => k_is)
    (case c35 => k_is)
    (case k35 => k_is)
    (case a39 => k_is)
    (case l39 => k_is)
    (case c39 => k_is)
    (case k39 => k_is)
    (case a40 => k_is)
    (case l40 => k_is)
    (case c40 => k_is)
    (case k40 => k_is)
    (case a41 => k_is)
    (case l41 => k_is)
    (case c41 => k_is)
    (case k41 => k_is)
    (case a42 => k_is)
    (case l42 => k_is)
    (case c42 => k_is)
    (case k42 => k_is)
    (case a43 => k_is)
    (case l43 => k_is)
    (case c43 => k_is)
    (case k43 => k_is)
    (case a44 => k_is)
    (case l44 => k_is)
    (case c44 => k_is)
    (case k44 => k_is)
    (case a45 => k_is)
    (case l45 => k_is)
    (case c45 => k_is)
    (case k45 => k_is)
    (case a46 => k_is)
    (case l46 => k_is)
    (case c46 => k_is)
    (case k46 => k_is)
    (case a47 => k_is)
    (case l47 => k_is)
    (case c47 => k_is)
    (case k47 => k_is)
    (case a48 => k_is)
    (case l48 => k_is)
    (case c48 => k_is)
    (case k48 => k_is)
    (case a49 => k_is)
    (case l49 => k_is)
    (case c49 => k_is)
    (case k49 => k_is)
