import PyProof.Rows.All
import Wide.All
import OpenK.AllK
import Wide.FinOn
import PyProof.NeKinds
import HandS.ForMost
import HandS.More
import HandS.DeepEq
import HandS.IsInst
import HandS.Style
import HandS.Defaults
import HandS.Codes
import PyProof.ReprRoads
import PyProof.Rows.BootFacts.P3
import PyProof.ReprBulk
import PyProof.P3Eq
import HandS.TupAny
import HandS.Base
import HandS.Call
import HandS.List
import HandS.Dict
import KE.KDictList
import PyProof.TupleOfSeq
import PyProof.TupleOfGen
import HandS.Walk
import HandS.RevRange
import HandS.Zip
import HandS.TryOnly
import KE.GoesMore
import KE.KTupSum
import HandS.Wide
import HandS.WideBits
import HandS.Keys
import HandS.TupSets
import KE.GoesEnum
import PySem.Challenge.RW_timesagain_k51_next_asks_by_own_reckonin
set_option Elab.async false
set_option linter.all false
set_option maxRecDepth 100000
set_option maxHeartbeats 4000000
namespace TA
open PySem PySem.Spec L2
open PyProof.Rows hiding St
/-- what == says of two items: the same value, or two flat ones -/
inductive EqI : V → V → Bool → Prop where
  | same (x : V) (h : flatB x = true ∨ ∃ a, x = .ref a) : EqI x x true
  | flat {x y : V} (hx : flatV x = true) (hy : flatV y = true) : EqI x y (eqV x y)
inductive EqIs : List V → List V → List Bool → Prop where
  | nil : EqIs [] [] []
  | cons {x y : V} {b : Bool} {xs ys : List V} {bs : List Bool} (h : EqI x y b) (t : EqIs xs ys bs) : EqIs (x :: xs) (y :: ys) (b :: bs)
theorem EqI.at {A : Around} {s : Shared} {x y : V} {b : Bool} {u v : Value} (h : EqI x y b) (rx : RelV x u) (ry : RelV y v) : SeqAt.EqAt A s u v b := by
  cases h with
  | same f =>
    rcases f with f | ⟨a, rfl⟩
    · exact eqAt_same rx ry f
    · cases (show u = Value.ref a from rx)
      cases (show v = Value.ref a from ry)
      exact SeqAt.EqAt.same _
  | flat hx hy => exact eqAt_V rx ry hx hy
theorem EqIs.len {xs ys : List V} {bs : List Bool} (h : EqIs xs ys bs) : xs.length = bs.length ∧ ys.length = bs.length := by
  induction h with
  | nil => exact ⟨rfl, rfl⟩
  | cons _ _ ih => exact ⟨congrArg Nat.succ ih.1, congrArg Nat.succ ih.2⟩
theorem EqIs.at {A : Around} {s : Shared} {xs ys : List V} {bs : List Bool} (h : EqIs xs ys bs) : ∀ {us vs : List Value}, Vals xs us → Vals ys vs → ∀ (j : Nat) (h1 : j < us.length) (h2 : j < vs.length), SeqAt.EqAt A s us[j] vs[j] (bs.getD j true) := by
  induction h with
  | nil =>
    intro us vs r1 r2 j h1 _
    cases r1
    exact absurd h1 (Nat.not_lt_zero j)
  | cons h _ ih =>
    intro us vs r1 r2 j h1 h2
    cases r1 with
    | cons a1 b1 =>
      cases r2 with
      | cons a2 b2 =>
        cases j with
        | zero => exact h.at a1 a2
        | succ j => exact ih b1 b2 j (Nat.lt_of_succ_lt_succ h1) (Nat.lt_of_succ_lt_succ h2)
theorem all_getD : ∀ bs : List Bool, (List.range bs.length).all (fun j => bs.getD j true) = bs.all id
  | [] => rfl
  | b :: r => by
    rw [List.length_cons, List.range_succ_eq_map, List.all_cons, List.all_map, List.all_cons]
    show (b && (List.range r.length).all fun j => r.getD j true) = (b && r.all id)
    rw [all_getD r]
section
variable {X : Cx}
/-- two lists compared, item by item -/
def rCmpL (K : PySem.W.Frag) (neg : Bool) : R2 := fun x y H Q => ∃ a b xs ys, x = .ref a ∧ y = .ref b ∧ SqL K H a xs ∧ SqL K H b ys ∧
  ((xs.length ≠ ys.length ∧ Q (.bl neg) H) ∨ ∃ bs : List Bool, EqIs xs ys bs ∧ Q (.bl (if neg then !bs.all id else bs.all id)) H)
theorem op_eqL (hu : X.A.units < cLine) : OpR X (compareOp .Eq) (rCmpL X.K false) := by
  intro pins s σ H x y v u Q I rx ry h
  obtain ⟨a, b, xs, ys, rfl, rfl, ha, hb, h⟩ := h
  cases (show v = Value.ref a from rx)
  cases (show u = Value.ref b from ry)
  obtain ⟨us, r1, p1, _⟩ := I.list ha
  obtain ⟨ws, r2, p2, _⟩ := I.list hb
  rcases h with ⟨hne, q⟩ | ⟨bs, e, q⟩
  · have hsz : (us.toArray.size != ws.toArray.size) = true := by
      rw [List.size_toArray, List.size_toArray, ← r1.length, ← r2.length]
      simpa using hne
    exact SeqAt.RcAt.lists_lengths p1.isList p2.isList hsz hu _ _ _ _ ⟨.bl _, H, I, rfl, q⟩
  · have hl := e.len
    have hsz : us.toArray.size = ws.toArray.size := by rw [List.size_toArray, List.size_toArray, ← r1.length, ← r2.length, hl.1, hl.2]
    refine SeqAt.RcAt.lists (e := fun j => bs.getD j true) p1.isList p2.isList hsz hu (fun j h1 h2 => ?_) _ _ _ _ ?_
    · have k := e.at (A := X.A.in1) (s := s) r1 r2 j (by simpa using h1) (by simpa using h2)
      simpa using k
    · rw [List.size_toArray, ← r1.length, hl.1, all_getD]
      exact ⟨.bl _, H, I, rfl, q⟩
theorem op_neL (hu : X.A.units < cLine) : OpR X (compareOp .NotEq) (rCmpL X.K true) := by
  intro pins s σ H x y v u Q I rx ry h
  obtain ⟨a, b, xs, ys, rfl, rfl, ha, hb, h⟩ := h
  cases (show v = Value.ref a from rx)
  cases (show u = Value.ref b from ry)
  obtain ⟨us, r1, p1, _⟩ := I.list ha
  obtain ⟨ws, r2, p2, _⟩ := I.list hb
  rcases h with ⟨hne, q⟩ | ⟨bs, e, q⟩
  · have hsz : (us.toArray.size != ws.toArray.size) = true := by
      rw [List.size_toArray, List.size_toArray, ← r1.length, ← r2.length]
      simpa using hne
    exact SeqAt.RcNeAt.lists_lengths p1.isList p2.isList hsz hu _ _ _ _ ⟨.bl _, H, I, rfl, q⟩
  · have hl := e.len
    have hsz : us.toArray.size = ws.toArray.size := by rw [List.size_toArray, List.size_toArray, ← r1.length, ← r2.length, hl.1, hl.2]
    refine SeqAt.RcNeAt.lists (e := fun j => bs.getD j true) p1.isList p2.isList hsz hu (fun j h1 h2 => ?_) _ _ _ _ ?_
    · have k := e.at (A := X.A.in1) (s := s) r1 r2 j (by simpa using h1) (by simpa using h2)
      simpa using k
    · rw [List.size_toArray, ← r1.length, hl.1, all_getD]
      exact ⟨.bl _, H, I, rfl, q⟩
/-- either of two readings -/
theorem op_or {f : Value → Value → Sem Value} {r1 r2 : R2} (h1 : OpR X f r1) (h2 : OpR X f r2) : OpR X f (fun x y H Q => r1 x y H Q ∨ r2 x y H Q) := by
  intro pins s σ H x y v u Q I rx ry h
  rcases h with h | h
  · exact h1 pins s σ H x y v u Q I rx ry h
  · exact h2 pins s σ H x y v u Q I rx ry h
end
end TA
namespace TF51
open PySem PySem.Spec L2 TA
open PyProof.Rows hiding St
def top (i : Nat) : Stmt := PySem.Challenge.pw_timesagain_k51_next_asks_by_own_reckonin.main.body.getD i (.Pass ⟨0, 0, 0, 0⟩)
/-- a def of the top: where it stands, its name, how it is called -/
structure Df (K : PySem.W.Frag) (mg : Str → Option Value) (x : Str) (st : Stmt) (f : Addr) (fd : FuncData) (ps : List Str) : Prop where
  F : Fun K x x st f fd
  m : mg x = some (.ref f)
  b : Binds K fd ps []
section
variable {X : Cx} {k j : Nat} {f : Addr} {fd : FuncData} {ps : List Str} {sp : Sp} {x : Str} {st : Stmt} {p pos : Pos} {e : Expr} {es : List Expr} {t tk : TA}
theorem pe_cd (D : Df X.K X.mg x st f fd ps) (F : FnOk X.prog X.w X.K X.mg X.base CX0 k f fd ps sp) (hr : Room j X.A) (hj : k ≤ j) (ha : PA X (e :: es) t) (hg : Gl X x := by rfl)
    (hdb : (x == ("__debug__" : Str)) = false := by decide) (he : starEach (e :: es) X.env = (false, eval e X.env) :: starEach es X.env := by rfl) (hpl : (backTo pos (starEach es X.env)).any (·.1) = false := by rfl) :
    PE X (.Call (.Name x p) (e :: es) [] pos) (tCall sp [] E0 t) := pe_call F (hr.mono hj) hg D.m D.F.kp D.b .nil pass0 ha hdb he hpl
/-- // by any number that is no giant -/
theorem op_fdivB : OpR X (binaryOp .FloorDiv) (rI (fun _ j => j ≠ 0 ∧ j.natAbs.log2 < 9000) fun i j => .int (i.fdiv j)) := opI fun _ _ _ _ _ _ _ hc q => floordiv_int hc.1 q (.inl (PyProof.noPylong_of_log2 hc.2))
end
/-- the names of the top that stand for Python's own things -/
structure Bn (mg : Str → Option Value) : Prop where
  b_ValueError : mg "ValueError" = none
  b_abs : mg "abs" = none
  b_all : mg "all" = none
  b_bool : mg "bool" = none
  b_enumerate : mg "enumerate" = none
  b_int : mg "int" = none
  b_isinstance : mg "isinstance" = none
  b_len : mg "len" = none
  b_list : mg "list" = none
  b_range : mg "range" = none
  b_sorted : mg "sorted" = none
  b_sum : mg "sum" = none
  b_tuple : mg "tuple" = none
  b_zip : mg "zip" = none
/-! ### heaps: all but p stays -/
def Keep (p : Addr) (H H' : Hp) : Prop := ∀ b o, b ≠ p → H b = some o → H' b = some o
theorem Keep.refl (p : Addr) (H : Hp) : Keep p H H := fun _ _ _ h => h
theorem Keep.trans {p : Addr} {H H1 H2 : Hp} (a : Keep p H H1) (b : Keep p H1 H2) : Keep p H H2 := fun c o n h => b c o n (a c o n h)
theorem Keep.of_same {p : Addr} {H H' : Hp} (s : Same H H') : Keep p H H' := fun b o _ h => s b o h
theorem Keep.upd_p {p : Addr} {H : Hp} {o : HO} : Keep p H (upd H p o) := fun b u n h => by rw [upd_ne n]; exact h
theorem Keep.new {p q : Addr} {H : Hp} {o : HO} (h : H q = none) : Keep p H (upd H q o) := fun b u _ hb => by rw [upd_ne (ne_of_none hb h)]; exact hb
theorem same_new {H : Hp} {q : Addr} {o : HO} (h : H q = none) : Same H (upd H q o) := fun b u hb => by rw [upd_ne (ne_of_none hb h)]; exact hb
/-- what draws: its cells at c, at most n of them were begun -/
def PenAt (n : Nat) (H : Hp) (p c : Addr) : Prop := ∃ (cells : List Int) (i : Nat) (g : Int), H p = some (.lst [.ref c, .int (i : Int), .int g]) ∧ c ≠ p ∧ H c = some (.lst (cells.map V.int)) ∧ cells.length ≤ 63 ∧ i ≤ n
theorem PenAt.up {n m : Nat} {H : Hp} {p c : Addr} (h : PenAt n H p c) (l : n ≤ m) : PenAt m H p c := by
  obtain ⟨cells, i, g, h1, h2, h3, h4, h5⟩ := h
  exact ⟨cells, i, g, h1, h2, h3, h4, Nat.le_trans h5 l⟩
theorem PenAt.same {n : Nat} {H H' : Hp} {p c : Addr} (h : PenAt n H p c) (s : Same H H') : PenAt n H' p c := by
  obtain ⟨cells, i, g, h1, h2, h3, h4, h5⟩ := h
  exact ⟨cells, i, g, s _ _ h1, h2, s _ _ h3, h4, h5⟩
theorem PenAt.ne {n : Nat} {H : Hp} {p c l : Addr} (h : PenAt n H p c) (hl : H l = none) : l ≠ p := by
  obtain ⟨cells, i, g, h1, _⟩ := h
  exact Ne.symm (ne_of_none h1 hl)
theorem PenAt.ne2 {n : Nat} {H : Hp} {p c l : Addr} (h : PenAt n H p c) (hl : H l = none) : l ≠ c := by
  obtain ⟨cells, i, g, h1, h2, h3, _⟩ := h
  exact Ne.symm (ne_of_none h3 hl)
/-- a store elsewhere -/
theorem PenAt.upd {n : Nat} {H : Hp} {p c l : Addr} {o : HO} (h : PenAt n H p c) (h1 : l ≠ p) (h2 : l ≠ c) : PenAt n (upd H l o) p c := by
  obtain ⟨cells, i, g, e1, e2, e3, e4, e5⟩ := h
  exact ⟨cells, i, g, by rw [upd_ne (Ne.symm h1)]; exact e1, e2, by rw [upd_ne (Ne.symm h2)]; exact e3, e4, e5⟩
theorem PenAt.lst {n : Nat} {H : Hp} {p c : Addr} (h : PenAt n H p c) : ∃ xs, H p = some (.lst xs) := by
  obtain ⟨cells, i, g, h1, _⟩ := h
  exact ⟨_, h1⟩
theorem PenAt.mk {n : Nat} {H : Hp} {p c : Addr} {cells : List Int} {i : Int} {g : Int} (h1 : H p = some (.lst [.ref c, .int i, .int g])) (h2 : c ≠ p) (h3 : H c = some (.lst (cells.map V.int))) (h4 : cells.length ≤ 63) (h0 : 0 ≤ i) (h5 : i ≤ n) : PenAt n H p c :=
  ⟨cells, i.toNat, g, by rw [h1, Int.toNat_of_nonneg h0], h2, h3, h4, by omega⟩
theorem fm_nn {x y : Int} (h : 0 < y) : 0 ≤ x.fmod y := Int.fmod_nonneg_of_pos x h
theorem fm_lt {x y : Int} (h : 0 < y) : x.fmod y < y := Int.fmod_lt_of_pos x h
/-- a number that divides well -/
def Dv (m : Int) : Prop := 0 < m ∧ m.natAbs.log2 < 9000
theorem Dv.of {m : Int} (h0 : 0 < m) (h : m ≤ 1000000000) : Dv m := ⟨h0, by
  have z : m.natAbs < 2 ^ 30 := by omega
  have e := (Nat.log2_lt (n := m.natAbs) (k := 30) (by omega)).mpr z
  omega⟩
theorem mem_at {xs : List V} {r : Int} {n : Int} (h0 : 0 ≤ r) (h1 : r < n) (hn : n = (xs.length : Int)) : ∃ v, v ∈ xs ∧ atI xs r = some v := by
  have hj : r.toNat < xs.length := by omega
  exact ⟨xs[r.toNat], List.getElem_mem hj, at_of (j := r.toNat) (by omega) (List.getElem?_eq_getElem hj)⟩
theorem take_snoc {α : Type} {xs : List α} {i : Nat} {x : α} (h : xs[i]? = some x) : xs.take (i + 1) = xs.take i ++ [x] := by
  rw [List.take_add_one, h]
  rfl
/-! ### what draws -/
abbrev sPen : Stmt := top 29
abbrev sDraw : Stmt := top 30
theorem scPen : FnScope ["script", "cell"] ["script"] (defScope sPen) := ⟨rfl, rfl, rfl, by decide +kernel, rfl, by decide +kernel, by decide +kernel⟩
theorem scDraw : FnScope ["sack", "many", "rest", "turn", "cell", "mixed"] ["sack", "many"] (defScope sDraw) := ⟨rfl, rfl, rfl, by decide +kernel, rfl, by decide +kernel, by decide +kernel⟩
def spPen (K : PySem.W.Frag) : Sp := fun vs H Q _ => ∃ (a : Addr) (ns : List Int), vs = [.ref a] ∧ SqL K H a (ns.map V.int) ∧ ns.length ≤ 63 ∧
  ∀ (p c : Addr) (H' : Hp), H p = none → Same H H' → PenAt 0 H' p c → Q (.ref p) H'
def spDraw : Sp := fun vs H Q _ => ∃ (p c : Addr) (many : Int) (n : Nat), vs = [.ref p, .int many] ∧ PenAt n H p c ∧ n ≤ 100000 ∧ Dv many ∧
  ∀ (r : Int) (H' : Hp), 0 ≤ r → r < many → Keep p H H' → PenAt (n + 1) H' p c → Q (.int r) H'
section
variable {P : Program} {w : World} {K : PySem.W.Frag} {mg : Str → Option Value} {base : Heap} {f f1 : Addr} {fd fd1 : FuncData}
theorem ok_pen (F : Fun K "_law_sack" "_law_sack" sPen f fd) (T : Bn mg) : FnOk P w K mg base CX0 1 f fd ["script"] (spPen K) := by
  refine F.ok scPen (fun vs H Q E h => ?_) (fun cdv A outer s H vs Q E hr h => ?_)
  · obtain ⟨a, ns, rfl, _⟩ := h
    rfl
  obtain ⟨a, ns, rfl, hS, hl, q⟩ := h
  refine ⟨_, (pss_one (ps_ret (pe_lst (pa_cons (pe_lc (own := [("cell", 1)]) (g := (gName 1)) (by rfl) scPen.nd (pi_list (pe_slice sl_list (pv 0) po_none (po_some pe_int))) (blkOk_by (own := [("cell", 1)]) (N := ["script", "cell"]) (sc := defScope sPen) (by decide +kernel)) (fun _ _ _ _ _ => (pg_name (i := 1) scPen.nd rfl (.inl rfl))) (fun _ _ _ _ _ => pts_nil) (fun _ _ _ _ _ => (pe_callTy call_int1 (by rfl) T.b_int (by decide +kernel) (pa_cons (pv 1) pa_nil)))) (pa_cons pe_int (pa_cons pe_int pa_nil)))))), ?_⟩
  refine ⟨_, rfl, _, rfl, a, _, rfl, hS, fun b hb => ?_⟩
  have cut : cutV (ns.map V.int) none (some 62) = (ns.take 62).map V.int := by
    unfold cutV
    rw [HT.sIx_none, List.drop_zero, show (some (62 : Int)) = some ((62 : Nat) : Int) from rfl, HT.sIx_nat, List.length_map, Nat.sub_zero, ← List.map_take]
    congr 1
    by_cases h : 62 ≤ ns.length
    · rw [Nat.min_eq_left h]
    · rw [Nat.min_eq_right (by omega), List.take_of_length_le (Nat.le_refl _), List.take_of_length_le (by omega)]
  refine ⟨b, rfl, ⟨_, SqL.of upd_same⟩, fun D hD => ?_⟩
  have sB : Same H (L2.upd H b (.lst (cutV (ns.map V.int) none (some 62)))) := same_new hb
  have dH : H D = none := sB.free hD
  have nDb : b ≠ D := ne_of_none upd_same hD
  refine lc_list (K := K) (a := b) (xs := cutV (ns.map V.int) none (some 62)) (fun i H2 => Same H H2 ∧ H2 b = some (.lst (cutV (ns.map V.int) none (some 62))) ∧ H2 D = some (.lst (((ns.take 62).map V.int).take i))) ?_ ?_ ?_ ?_
  · exact ⟨sB.trans (same_new hD), by rw [upd_ne nDb, upd_same], by rw [upd_same, List.take_zero]⟩
  · rintro i H2 _ ⟨_, h2, _⟩
    exact SqL.of h2
  · rintro i x H2 hx ⟨s2, h2, h3⟩
    rw [cut, List.getElem?_map] at hx
    obtain ⟨z, hz, rfl⟩ := Option.map_eq_some_iff.mp hx
    refine ⟨rfl, _, rfl, .inl ⟨_, rfl, _, h3, ?_, ?_⟩⟩
    · rw [List.length_take, List.length_map, List.length_take]
      exact small1000 (by omega)
    · refine ⟨fun y o hy => ?_, by rw [upd_ne nDb]; exact h2, ?_⟩
      · rw [upd_ne (ne_of_none hy dH)]
        exact s2 y o hy
      · rw [upd_same, take_snoc (x := V.int z) (by rw [List.getElem?_map, hz]; rfl)]
  rintro H2 ⟨s2, h2, h3⟩
  refine ⟨(by show 3 ≤ sizeLine; decide), fun p hp => ?_⟩
  have pH : H p = none := s2.free hp
  refine q p D _ pH (s2.trans (same_new hp)) ?_
  have nDp : D ≠ p := ne_of_none h3 hp
  refine PenAt.mk (c := D) (cells := ns.take 62) (i := 0) upd_same nDp ?_ (by rw [List.length_take]; omega) (by decide) (by decide)
  rw [upd_ne nDp, h3, List.take_of_length_le]
  rw [cut]
  exact Nat.le_refl _
theorem ok_draw (F : Fun K "_law_take" "_law_take" sDraw f fd) (T : Bn mg) : FnOk P w K mg base CX0 1 f fd ["sack", "many"] spDraw := by
  refine F.ok scDraw (fun vs H Q E h => ?_) (fun cdv A outer s H vs Q E hr h => ?_)
  · obtain ⟨p, c, many, n, rfl, _⟩ := h
    rfl
  obtain ⟨p, c, many, n, rfl, ⟨cells, i, g, hp, hcp, hc, hl, hi⟩, hn, ⟨m0, m1⟩, q⟩ := h
  have mne : many ≠ 0 := by omega
  have mdiv : many ≠ 0 ∧ many.natAbs.log2 < 9000 := ⟨mne, m1⟩
  refine ⟨_, (pss_cons (ps_if (pt_cmpR op_gt (pe_ix ix_list (pv 0) pe_int (fun _ _ => rfl)) pe_int (nomark _)) (pss_cons (ps_set (i := 2) scDraw.nd rfl (.inl rfl) (pe_ix ix_list (pv 0) pe_int (fun _ _ => rfl)))
        (pss_cons (ps_asg (pe_op op_fdivB (pe_callTy call_int1 (by rfl) T.b_int (by decide +kernel) (pa_cons (pv 2) pa_nil)) (pv 1)) (pg_sub (pv 0) pe_int set_list))
        (pss_one (ps_ret (pe_op op_modN (pe_callTy call_int1 (by rfl) T.b_int (by decide +kernel) (pa_cons (pv 2) pa_nil)) (pv 1)))))) pss_nil)
      (pss_cons (ps_set (i := 3) scDraw.nd rfl (.inl rfl) (pe_ix ix_list (pv 0) pe_int (fun _ _ => rfl)))
      (pss_cons (ps_asg (pe_op op_add (pv 3) pe_int) (pg_sub (pv 0) pe_int set_list))
      (pss_cons (ps_set (i := 4) scDraw.nd rfl (.inl rfl) (pe_op op_add (pe_op op_mul pe_int (pv 3)) pe_int))
      (C8.pss_cut (ps_if (pt_cmpR (op_neL hr.units0) (pe_ix ix_list (pv 0) pe_int (fun _ _ => rfl)) (pe_lst pa_nil) (nomark _)) (pss_one (ps_set (i := 4) scDraw.nd rfl (.inl rfl) (pe_ix ix_list (pe_ix ix_list (pv 0) pe_int (fun _ _ => rfl)) (pe_op op_modN (pe_callTy call_int1 (by rfl) T.b_int (by decide +kernel) (pa_cons (pv 3) pa_nil)) (pe_callB call_len_seq (by rfl) T.b_len (by decide +kernel) (pa_cons (pe_ix ix_list (pv 0) pe_int (fun _ _ => rfl)) pa_nil))) (fun _ _ => rfl)))) pss_nil)
      (C8.pss_cut (ps_if (PW.pt (pw_and (pt_cmpR op_lt (pv 3) (pe_callB call_len_seq (by rfl) T.b_len (by decide +kernel) (pa_cons (pe_ix ix_list (pv 0) pe_int (fun _ _ => rfl)) pa_nil)) (nomark _)) (pw_and1 (pt_cmpR op_ge (pe_callB call_abs (by rfl) T.b_abs (by decide +kernel) (pa_cons (pv 4) pa_nil)) (pe_op op_pow pe_int pe_int) (nomark _))))) (pss_cons (ps_set (i := 2) scDraw.nd rfl (.inl rfl) (pe_op op_add (pe_op op_mul pe_int (pe_op op_sub (pe_callB call_abs (by rfl) T.b_abs (by decide +kernel) (pa_cons (pv 4) pa_nil)) (pe_op op_pow pe_int pe_int))) (pe_callTy call_int1 (by rfl) T.b_int (by decide +kernel) (pa_cons (pe_cmpR op_lt (pv 4) pe_int (nomark _)) pa_nil))))
        (pss_cons (ps_asg (pe_op op_fdivB (pe_callTy call_int1 (by rfl) T.b_int (by decide +kernel) (pa_cons (pv 2) pa_nil)) (pv 1)) (pg_sub (pv 0) pe_int set_list))
        (pss_one (ps_ret (pe_op op_modN (pe_callTy call_int1 (by rfl) T.b_int (by decide +kernel) (pa_cons (pv 2) pa_nil)) (pv 1)))))) pss_nil)
      (pss_cons (ps_set (i := 5) scDraw.nd rfl (.inl rfl) (pe_op op_modN (pe_callTy call_int1 (by rfl) T.b_int (by decide +kernel) (pa_cons (pe_op op_pow (pe_op op_add (pe_op op_add (pe_op op_modN (pe_callTy call_int1 (by rfl) T.b_int (by decide +kernel) (pa_cons (pv 4) pa_nil)) pe_int) (pe_op op_mul pe_int (pv 3))) pe_int) pe_int) pa_nil)) pe_int))
      (pss_cons (ps_set (i := 5) scDraw.nd rfl (.inl rfl) (pe_op op_modN (pe_callTy call_int1 (by rfl) T.b_int (by decide +kernel) (pa_cons (pe_op op_pow (pe_op op_add (pe_op op_add (pe_op op_mul (pv 5) (pe_op op_add (pe_op op_mul pe_int (pv 3)) pe_int)) (pe_op op_mul (pe_op op_mul pe_int (pv 3)) (pv 3))) pe_int) pe_int) pa_nil)) pe_int))
      (pss_one (ps_ret (pe_op op_modN (pe_callTy call_int1 (by rfl) T.b_int (by decide +kernel) (pa_cons (pe_op op_fdivB (pv 5) pe_int) pa_nil)) (pv 1)))))))))))), ?_⟩
  refine ⟨_, rfl, p, _, _, _, rfl, rfl, SqL.of hp, rfl, _, _, rfl, rfl, _, rfl, ?_⟩
  refine ite2 (fun c0 => ?_) (fun c0 => ?_)
  · refine ⟨_, rfl, p, _, _, _, rfl, rfl, SqL.of hp, rfl, ?_⟩
    refine ⟨_, rfl, .inl ⟨_, rfl, _, rfl, _, _, rfl, rfl, mdiv, ?_⟩⟩
    refine ⟨_, rfl, p, _, _, _, rfl, rfl, hp, rfl, ?_⟩
    refine ⟨_, rfl, .inl ⟨_, rfl, _, rfl, _, _, rfl, rfl, mne, ?_⟩⟩
    refine q _ _ (fm_nn m0) (fm_lt m0) Keep.upd_p ?_
    exact PenAt.mk (c := c) (cells := cells) (i := i) upd_same hcp (by rw [upd_ne hcp]; exact hc) hl (by omega) (by omega)
  refine ⟨_, rfl, p, _, _, _, rfl, rfl, SqL.of hp, rfl, ?_⟩
  refine ⟨_, rfl, _, _, rfl, rfl, _, rfl, p, _, _, _, rfl, rfl, hp, rfl, ?_⟩
  have hp1 : ∀ o, L2.upd H p o p = some o := fun o => upd_same
  refine ⟨_, rfl, _, _, rfl, rfl, .inl ⟨by decide, by decide⟩, _, _, rfl, rfl, ?_⟩
  refine ⟨fun σ H2 => ∃ (cell : Int) (v0 v1 : Option V), σ = [some (.ref p), some (.int many), v0, some (.int (i : Int)), some (.int cell), v1] ∧ Keep p H H2 ∧ H2 p = some (.lst [.ref c, .int ((i : Int) + 1), .int g]), ?_, ?_⟩
  · refine ⟨_, rfl, p, _, _, _, rfl, rfl, SqL.of (hp1 _), rfl, Nat.zero_le _, fun l hl0 => ?_⟩
    have nlp : p ≠ l := ne_of_none (hp1 _) hl0
    have hlH : H l = none := by
      rw [← hl0, upd_ne (Ne.symm nlp)]
    have ncl : c ≠ l := ne_of_none hc hlH
    have hc2 : ∀ o, (L2.upd (L2.upd H p o) l (.lst [])) c = some (.lst (cells.map V.int)) := fun o => by rw [upd_ne ncl, upd_ne hcp]; exact hc
    have hp2 : ∀ o, (L2.upd (L2.upd H p o) l (.lst [])) p = some o := fun o => by rw [upd_ne nlp, upd_same]
    have kp2 : ∀ o, Keep p H (L2.upd (L2.upd H p o) l (.lst [])) := fun o => fun b u nb hb => by rw [upd_ne (ne_of_none hb hlH), upd_ne nb]; exact hb
    refine ⟨c, l, _, _, rfl, rfl, SqL.of (hc2 _), SqL.of upd_same, ?_⟩
    by_cases e : cells = []
    · subst e
      refine .inr ⟨[], .nil, _, rfl, iteF ?_⟩
      exact ⟨_, _, _, rfl, kp2 _, hp2 _⟩
    · have el : cells.length ≠ 0 := fun z => e (List.length_eq_zero_iff.mp z)
      refine .inl ⟨by rw [List.length_map]; exact el, _, rfl, iteT ?_⟩
      refine ⟨_, rfl, p, _, _, _, rfl, rfl, SqL.of (hp2 _), rfl, _, rfl, .inl ⟨_, rfl, _, rfl, p, _, _, _, rfl, rfl, SqL.of (hp2 _), rfl, c, _, rfl, .inl (SqL.of (hc2 _)), ?_⟩⟩
      have lpos : (0 : Int) < ((cells.map V.int).length : Int) := by rw [List.length_map]; omega
      have a1 := fm_nn (x := (i : Int)) lpos
      have a2 := fm_lt (x := (i : Int)) lpos
      refine ⟨_, _, rfl, rfl, by omega, c, _, _, .int (cells.getD ((i : Int).fmod ((cells.map V.int).length : Int)).toNat 0), rfl, rfl, SqL.of (hc2 _), ?_, ?_⟩
      · rw [List.length_map] at a2 ⊢
        refine at_of (j := ((i : Int).fmod (cells.length : Int)).toNat) ?_ ?_
        · rw [Int.toNat_of_nonneg (by rw [List.length_map] at a1; exact a1)]
        · have hj : ((i : Int).fmod (cells.length : Int)).toNat < cells.length := by rw [List.length_map] at a1; omega
          rw [List.getElem?_map, List.getElem?_eq_getElem hj, List.getD_eq_getElem?_getD, List.getElem?_eq_getElem hj]
          rfl
      · exact ⟨_, _, _, rfl, kp2 _, hp2 _⟩
  rintro σ2 H2 ⟨cell, v0, v1, rfl, k2, hp2⟩
  have hc2 := k2 c _ hcp hc
  refine ⟨fun σ H' => H' = H2 ∧ ∃ (v0 v1 : Option V), σ = [some (.ref p), some (.int many), v0, some (.int (i : Int)), some (.int cell), v1], ?_, ?_⟩
  · refine ⟨_, rfl, _, rfl, p, _, _, _, rfl, rfl, SqL.of hp2, rfl, c, _, rfl, .inl (SqL.of hc2), _, _, rfl, rfl, _, rfl, ?_⟩
    refine ite2 (fun c1 => ?_) (fun c1 => iteF ⟨rfl, _, _, rfl⟩)
    refine ⟨_, rfl, _, rfl, _, _, rfl, rfl, ⟨by decide, by decide, by decide⟩, _, _, rfl, rfl, _, rfl, ?_⟩
    refine ite2 (fun c2 => ?_) (fun c2 => ⟨rfl, _, _, rfl⟩)
    refine ⟨_, rfl, _, rfl, _, _, rfl, rfl, ⟨by decide, by decide, by decide⟩, _, _, rfl, rfl, _, _, rfl, rfl, .inl ⟨by decide, by decide⟩, _, rfl, _, _, rfl, rfl, .inr ⟨_, rfl, _, _, rfl, rfl, ?_⟩⟩
    refine ⟨_, rfl, .inl ⟨_, rfl, _, rfl, _, _, rfl, rfl, mdiv, ?_⟩⟩
    refine ⟨_, rfl, p, _, _, _, rfl, rfl, hp2, rfl, ?_⟩
    refine ⟨_, rfl, .inl ⟨_, rfl, _, rfl, _, _, rfl, rfl, mne, ?_⟩⟩
    refine q _ _ (fm_nn m0) (fm_lt m0) (k2.trans Keep.upd_p) ?_
    exact PenAt.mk (c := c) (cells := cells) (i := (i : Int) + 1) upd_same hcp (by rw [upd_ne hcp]; exact hc2) hl (by omega) (by omega)
  rintro σ3 H3 ⟨rfl, w0, w1, rfl⟩
  have b1 := fm_nn (x := cell) (y := 2147483497) (by decide)
  have b2 := fm_lt (x := cell) (y := 2147483497) (by decide)
  refine ⟨_, rfl, .inl ⟨_, rfl, _, _, rfl, rfl, (by show (_ : Int) ≠ 0; decide), _, rfl, _, _, rfl, rfl, .inl ⟨by decide, by decide⟩, _, _, rfl, rfl, _, _, rfl, rfl, _, _, rfl, rfl, ⟨by decide, by decide, by omega⟩, .inl ⟨_, rfl, _, _, rfl, rfl, (by show (_ : Int) ≠ 0; decide), ?_⟩⟩⟩
  generalize hM : (Int.fmod ((cell.fmod 2147483497 + 73009 * (i : Int) + 3181) ^ (5 : Int).toNat) 2147483543) = M
  have d1 : 0 ≤ M := by rw [← hM]; exact fm_nn (by decide)
  have d2 : M < 2147483543 := by rw [← hM]; exact fm_lt (by decide)
  refine ⟨_, rfl, _, rfl, _, _, rfl, rfl, .inl ⟨by decide, by decide⟩, _, _, rfl, rfl, _, _, rfl, rfl, .inl ⟨by omega, by omega⟩, _, rfl, _, _, rfl, rfl, .inl ⟨by decide, by decide⟩, _, rfl, _, _, rfl, rfl, .inl ⟨by omega, by omega⟩, _, _, rfl, rfl, _, _, rfl, rfl, _, _, rfl, rfl, ⟨by decide, by decide, ?_⟩, .inl ⟨_, rfl, _, _, rfl, rfl, (by show (_ : Int) ≠ 0; decide), ?_⟩⟩
  · have e1 : M * (2 * (i : Int) + 2657) ≤ 2147483543 * 300000 := Int.mul_le_mul (by omega) (by omega) (by omega) (by omega)
    have e2 : 0 ≤ M * (2 * (i : Int) + 2657) := Int.mul_nonneg d1 (by omega)
    have e3 : 61027 * (i : Int) * (i : Int) ≤ 10000000000 * 100000 := Int.mul_le_mul (by omega) (by omega) (by omega) (by omega)
    have e4 : 0 ≤ 61027 * (i : Int) * (i : Int) := Int.mul_nonneg (by omega) (by omega)
    rw [hM]
    omega
  refine ⟨_, rfl, _, _, rfl, rfl, ⟨(by show (_ : Int) ≠ 0; decide), (by show Nat.log2 _ < 9000; decide)⟩, .inl ⟨_, rfl, _, rfl, _, _, rfl, rfl, mne, ?_⟩⟩
  refine q _ _ (fm_nn m0) (fm_lt m0) k2 ?_
  exact PenAt.mk (c := c) (cells := cells) (i := (i : Int) + 1) hp2 hcp hc2 hl (by omega) (by omega)
abbrev sPick : Stmt := top 31
theorem scPick : FnScope ["sack", "some"] ["sack", "some"] (defScope sPick) := ⟨rfl, rfl, rfl, by decide +kernel, rfl, by decide +kernel, by decide +kernel⟩
def spPick (K : PySem.W.Frag) : Sp := fun vs H Q _ => ∃ (p c a : Addr) (xs : List V) (n : Nat), vs = [.ref p, .ref a] ∧ PenAt n H p c ∧ n ≤ 100000 ∧ a ≠ p ∧ H a = some (.lst xs) ∧ xs ≠ [] ∧ xs.length ≤ 1000000 ∧
  ∀ (v : V) (H' : Hp), v ∈ xs → Keep p H H' → PenAt (n + 1) H' p c → Q v H'
theorem ok_pick (F : Fun K "_law_pick" "_law_pick" sPick f fd) (T : Bn mg) (D__law_take : Df K mg "_law_take" sDraw f1 fd1 ["sack", "many"]) (G__law_take : FnOk P w K mg base CX0 1 f1 fd1 ["sack", "many"] spDraw) : FnOk P w K mg base CX0 2 f fd ["sack", "some"] (spPick K) := by
  refine F.ok scPick (fun vs H Q E h => ?_) (fun cdv A outer s H vs Q E hr h => ?_)
  · obtain ⟨p, c, a, xs, n, rfl, _⟩ := h
    rfl
  obtain ⟨p, c, a, xs, n, rfl, hp, hn, na, ha, hne, hl, q⟩ := h
  refine ⟨_, (pss_one (ps_ret (pe_ix ix_list (pv 1) (pe_cd D__law_take G__law_take hr (by decide) (pa_cons (pv 0) (pa_cons (pe_callB call_len_seq (by rfl) T.b_len (by decide +kernel) (pa_cons (pv 1) pa_nil)) pa_nil))) (fun _ _ => rfl)))), ?_⟩
  have lp : xs.length ≠ 0 := fun z => hne (List.length_eq_zero_iff.mp z)
  refine ⟨_, rfl, _, rfl, _, rfl, a, _, rfl, .inl (SqL.of ha), p, c, _, n, rfl, hp, hn, Dv.of (by omega) (by omega), fun r H' r0 r1 k hp' => ?_⟩
  obtain ⟨v, hv, hat⟩ := mem_at (xs := xs) r0 r1 rfl
  exact ⟨a, _, _, _, rfl, rfl, SqL.of (k _ _ na ha), hat, q v H' hv k hp'⟩
end
end TF51
/-! repr of data at any depth: a call's room that also tells that no repr is under way -/
namespace TG
open PySem PySem.Spec L2
open PyProof.Rows hiding St
/-- room for k more calls, and no repr under way -/
structure RoomG (k : Nat) (A : Around) : Prop where
  hd : A.handled = none
  dp : A.depth + k + 5 < recursionLimit
  un : A.units + 6 * k + 200 < cLine
  gd : A.guards = some []
theorem RoomG.mono {j k : Nat} {A : Around} (h : RoomG k A) (hj : j ≤ k) : RoomG j A := ⟨h.hd, by have := h.dp; omega, by have := h.un; omega, h.gd⟩
theorem RoomG.down {k : Nat} {A : Around} (h : RoomG (k + 1) A) (env : Env) : RoomG k (A.deeper env) :=
  ⟨h.hd, by have := h.dp; show A.depth + 1 + k + 5 < _; omega, by have := h.un; show A.units + 3 + 6 * k + 200 < _; omega, h.gd⟩
theorem RoomG.room {k : Nat} {A : Around} (h : RoomG (3 * k) A) : Room k A := ⟨h.hd, by have := h.dp; omega, by have := h.un; omega⟩
theorem RoomG.depth {k : Nat} {A : Around} (h : RoomG k A) : A.depth < recursionLimit := by have := h.dp; omega
theorem RoomG.units {k : Nat} {A : Around} (h : RoomG k A) : A.units + 64 < cLine := by have := h.un; omega
theorem RoomG.units0 {k : Nat} {A : Around} (h : RoomG k A) : A.units < cLine := by have := h.un; omega
theorem RoomG.units2 {k : Nat} {A : Around} (h : RoomG k A) : A.units + 151 < cLine := by have := h.un; omega
theorem RoomG.hu {k : Nat} {A : Around} (h : RoomG k A) : A.units + 1 < cLine := by have := h.un; omega
/-- a def's promise, asked where no repr is under way -/
structure FnG (P : Program) (w : World) (K : PySem.W.Frag) (mg : Str → Option Value) (base : Heap) (CX : CXT) (k : Nat) (f : Addr) (fd : FuncData) (ps : List Str) (sp : Sp) : Prop where
  len : ∀ vs H Q E, sp vs H Q E → vs.length = ps.length
  go : ∀ (A : Around) (outer : List Env) (s : Shared) (H : Hp) (args : Args) (us : List Value) (vs : List V) (Q : VK) (E : XK), RoomG k A → Env0 P w K mg base A outer s H → BindsTo s fd args (ps.zip us) → Vals vs us → sp vs H Q E →
    codeAny (model P w) A (.call (.ref f) args) (CR CX outer P w H s Q E) s
section
variable {P : Program} {w : World} {K : PySem.W.Frag} {mg : Str → Option Value} {base : Heap} {CX : CXT} {j k : Nat} {f : Addr} {fd : FuncData} {ps : List Str} {sp : Sp}
theorem fnG_of (F : FnOk P w K mg base CX k f fd ps sp) : FnG P w K mg base CX (3 * k) f fd ps sp := ⟨F.len, fun A outer s H args us vs Q E hr => F.run A outer s H args us vs Q E hr.room⟩
theorem FnG.mono (F : FnG P w K mg base CX j f fd ps sp) (h : j ≤ k) : FnG P w K mg base CX k f fd ps sp := ⟨F.len, fun A outer s H args us vs Q E hr => F.go A outer s H args us vs Q E (hr.mono h)⟩
end
section
variable {P : Program} {w : World} {K : PySem.W.Frag} {mg : Str → Option Value} {base : Heap}
/-- the rule for a def, as Fun.ok, with the room told so -/
theorem fun_okG {x qual : Str} {st : Stmt} {f : Addr} {fd : FuncData} {N ps : List Str} {k : Nat} {sp : Sp} (F : Fun K x qual st f fd) (S : FnScope N ps (defScope st)) (len : ∀ vs H Q E, sp vs H Q E → vs.length = ps.length)
    (hbody : ∀ (cdv : Value) (A : Around) (outer : List Env) (s : Shared) (H : Hp) (vs : List V) (Q : VK) (E : XK), RoomG k (A.deeper (envOfC qual (defScope st) s.heap.objs.size f cdv)) → sp vs H Q E →
      ∃ t, PSs (cxOf CX0 P w K mg base N qual (defScope st) f cdv A outer s H E).nox (defBody st) t ∧ t { nx := fun _ H' => Q .non H', rt := Q } (start N vs) H) : FnG P w K mg base CX0 (k + 1) f fd ps sp := by
  obtain ⟨oc, od, kV, doc, pm, an, cdv, ct, osl, rfl, lk, hcd⟩ := F.ex
  refine ⟨len, fun A outer s H args us vs Q E hr e0 hb r hsp => ?_⟩
  have hl := len _ _ _ _ hsp
  have kin : K.In s.heap := e0.mod.kin.keeps fun b o e => (e0.bs b o e).1
  have hlim : s.heap.NoLimit := e0.mod.nolimit.keeps fun b o e => (e0.bs b o e).1
  have kinds : ∀ y ∈ ps.zip us, (defScope st).names.lookup y.1 = some .local ∨ ((defScope st).names.lookup y.1 = some .cell ∧ ((cellsFrom (s.heap.objs.size + 1) (defScope st).names []).lookup y.1).isSome = true) := by
    rintro ⟨n, v⟩ hy
    exact (S.par n (List.of_mem_zip hy).1).elim .inl fun z => .inr ⟨z, PySem.W.cellsFrom_some _ _ _ (.inl z)⟩
  refine codeAny_call_function hr.depth (kin _ _ lk) rfl S.co S.gen rfl (PySem.W.codeRec_of kin hcd) (hb _ _ _ _ ?_)
  refine wpAny_newFunctionEnv_cells S.kind kinds fun env he s1 z => ?_
  subst he
  refine ⟨hlim.keeps z.toInCall.keep, codeAny_func ?_⟩
  obtain ⟨t, ht, hq⟩ := hbody cdv A outer s H vs Q E (hr.down _) hsp
  have I : Inv (cxOf CX0 P w K mg base N qual (defScope st) f cdv A outer s H E) [] (start N vs) H s1 := inv_start S hr.hd e0 hl r z
  refine wpAny_mono (ht.nox.run [] s1 (start N vs) H _ I hq) (fun fl s' hs => ?_) fun e s' hs => hs
  have done : ∀ {τ : L2.St} {G : Hp} {v : V} {u : Value}, Inv (cxOf CX0 P w K mg base N qual (defScope st) f cdv A outer s H E) [] τ G s' → RelV v u → Q v G → CE outer P w H s Q u s' :=
    fun {τ G v u} J rv q => ⟨v, G, J.os, J.bare, J.base, J.hok, rv, q⟩
  match fl, hs with
  | .ret u, hs =>
    obtain ⟨v, τ, G, J, rv, q⟩ := hs
    exact done J rv q
  | .next, hs =>
    obtain ⟨τ, G, J, q⟩ := hs
    exact done (v := V.non) (u := Value.none) J rfl q
  | .brk, ⟨_, _, _, q⟩ => exact q.elim
  | .cont, ⟨_, _, _, q⟩ => exact q.elim
end
section
variable {X : Cx} {CX : CXT} {j k : Nat} {f : Addr} {fd : FuncData} {ps ks : List Str} {sp : Sp} {dvs : List V} {ds : List Value} {E : XK} {x : Str} {p pos : Pos} {e : Expr} {es : List Expr} {kws : List Keyword} {t tk : TA} {n : Nat}
  {g : List Value → List Value → List Value} {gV : List V → List V → List V}
theorem run_fnG {pins : List (Addr × Obj)} {σ : L2.St} {H : Hp} {s : Shared} {Q : VK} {us ws : List Value} {vs zs : List V} (F : FnG X.prog X.w X.K X.mg X.base CX k f fd ps sp) (hr : RoomG k X.A) (hb : KBn X.K fd ps n ks g gV) (hx : Passes CX X E)
    (I : Inv X pins σ H s) (r : Vals vs us) (rz : Vals zs ws) (hn : us.length = n) (hk : ws.length = ks.length) (h : sp (gV vs zs) H Q E) : wpAny (model X.prog X.w) X.A (call (.ref f) us (ks.zip ws)) (EP X pins σ Q) X.xe s := by
  refine wpAny_call (codeAny_mono (F.go X.A X.stack s H ⟨us, ks.zip ws⟩ (g us ws) (gV vs zs) Q E hr I.env0 (hb.to s us ws I.kIn hn hk) (hb.rel r rz) h) fun res s' hq => ?_)
  match res, hq with
  | .error e, hq => exact hx pins σ H s e s' I hq
  | .ok (.ret u), hq => exact I.after hq
  | .ok .next, hq => exact hq.elim
  | .ok .brk, hq => exact hq.elim
  | .ok .cont, hq => exact hq.elim
theorem binds_kb (hb : Binds X.K fd ps []) : KBn X.K fd ps ps.length [] (fun us _ => us) (fun vs _ => vs) :=
  ⟨fun s us ws hK h1 h2 => by
    have z := hb s us hK (by rw [List.append_nil]; exact h1)
    rw [List.append_nil] at z
    exact z, fun a _ => a⟩
/-- f(e, ..), every argument by its place -/
theorem pe_cdG (F : FnG X.prog X.w X.K X.mg X.base CX k f fd ps sp) (hr : RoomG j X.A) (hj : k ≤ j) (hm : X.mg x = some (.ref f)) (hk : PySem.W.keepIn X.K (.ref f) = true) (hb : Binds X.K fd ps []) (hx : Passes CX X E) (ha : PA X (e :: es) t) (hg : Gl X x := by rfl)
    (hdb : (x == ("__debug__" : Str)) = false := by decide) (he : starEach (e :: es) X.env = (false, eval e X.env) :: starEach es X.env := by rfl) (hpl : (backTo pos (starEach es X.env)).any (·.1) = false := by rfl) :
    PE X (.Call (.Name x p) (e :: es) [] pos) (tCall sp [] E t) := by
  refine ⟨fun pins s σ H Q I h => ?_⟩
  refine wpAny_Call_Name_kw (ld_glob I hg hm ?_ hdb)
  refine PySem.W.callWith_K (h₀ := X.base) I.ok.mod.kin hk (thn (ha.run pos pins s σ H _ I h) fun us s1 ⟨vs, H1, I1, r, q⟩ => ⟨I1.kIn, ?_⟩) he hpl
  have q2 : sp vs H1 Q E := by
    have z : sp (vs ++ []) H1 Q E := q
    rwa [List.append_nil] at z
  have hl : us.length = ps.length := by rw [← r.length]; exact F.len _ _ _ _ q2
  exact run_fnG (us := us) (vs := vs) (ks := []) (ws := []) (zs := []) F (hr.mono hj) (binds_kb hb) hx I1 r .nil hl rfl q2
end
section
variable {X : Cx}
/-- repr(x) of data at any depth -/
def rRepr (K : PySem.W.Frag) : List V → Hp → VK → Prop := fun xs H Q => ∃ (x : V) (d : PyData), xs = [x] ∧ Dp K H x d ∧ d.showable = true ∧ d.hasDict = false ∧ d.depth ≤ 150 ∧ d.shown.length ≤ sizeLine ∧ Q (.str d.shown) H
theorem call_repr (hg : X.A.guards = some []) (hu : X.A.units + 151 < cLine) : CallR X (.builtin "repr") (rRepr X.K) := by
  intro pins s σ H xs us Q I r h
  obtain ⟨x, d, rfl, hd, hs, hn, hdep, hsz, q⟩ := h
  obtain ⟨u, rfl, rx⟩ := vals1 r
  obtain ⟨as, rd⟩ := Dp.reads I d x u hd rx
  have rd0 := rd
  cases rd with
  | none => exact PySem.P.repr_of_none ⟨.str _, H, I.tok _, ⟨_, rfl⟩, q⟩
  | bool b => exact PySem.P.repr_of_bool ⟨.str _, H, I.tok _, ⟨_, rfl⟩, q⟩
  | int i t => exact PySem.P.repr_of_int (of_decide_eq_true hs) ⟨.str _, H, I.tok _, ⟨_, rfl⟩, q⟩
  | str z t => exact PySem.P.repr_of_str ⟨.str _, H, I.tok _, ⟨_, rfl⟩, q⟩ hsz
  | list h1 h2 h3 h4 => exact repr_of_reads' rd0 hs (fun z => by rw [hn] at z; cases z) hg (by omega) (fun _ _ e => e) (fun h' u tk hk => ⟨.str _, H, I.kept hk, ⟨_, rfl⟩, q⟩) hsz
  | tuple h1 h2 h3 h4 => exact repr_of_reads' rd0 hs (fun z => by rw [hn] at z; cases z) hg (by omega) (fun _ _ e => e) (fun h' u tk hk => ⟨.str _, H, I.kept hk, ⟨_, rfl⟩, q⟩) hsz
  | dict h1 h2 h3 h4 h5 => cases hn
end
section
/-- the head, for a law whose promise wants that no repr is under way -/
theorem law_goG {P : Program} {w : World} {K : PySem.W.Frag} {mg mb : Str → Option Value} {k : Nat} {fa a : Addr} {fd : FuncData} {x : Str} {sp : Sp} {s₁ : Shared} {vs : List Value} {ns : List Int}
    (KX : K.In s₁.heap) (hns : s₁.heap.Ns mainGlobals mg) (hb : s₁.heap.Ns builtinsNs mb) (hbb : ∀ x : Str, x ≠ "__name__" → mb x = bootBuiltins x) (hlim : s₁.heap.NoLimit) (hg : s₁.gens = #[])
    (ha : s₁.heap.get? a = some { cls := .type "list", data := .seq vs.toArray }) (hi : IntsAre vs ns) (hl : ns.length ≤ sizeLine) (hr : RoomG k callerA)
    (F : ∀ base : Heap, K.In base → base.Ns mainGlobals mg → FnG P w K mg base CX0 k fa fd [x] sp) (hbind : ∀ (s : Shared) (u : Value), BindsTo s fd ⟨[u], []⟩ [(x, u)])
    (hsp : ∀ H : Hp, Only H → SqL K H a (ns.map V.int) → sp [.ref a] H (fun v _ => v = .bl true) fun _ _ _ => False) :
    codeAny (model P w) callerA (.call (.ref fa) ⟨[.ref a], []⟩) (fun r s' => r = .ok (.ret (.bool true)) ∧ OldK s₁.heap s'.heap ∧ s'.os = s₁.os ∧ AllBare s'.gens) s₁ := by
  have rv := vals_ints hi
  have run : ∀ G : Hp, Only G → SqL K G a (ns.map V.int) → HOk P w G s₁.heap → (∀ b, G b ≠ none → b = a) → (G a ≠ none → K.lookup a = none) →
      codeAny (model P w) callerA (.call (.ref fa) ⟨[.ref a], []⟩) (fun r s' => r = .ok (.ret (.bool true)) ∧ OldK s₁.heap s'.heap ∧ s'.os = s₁.os ∧ AllBare s'.gens) s₁ := by
    intro G gO gS gok gA gK
    have inB : ∀ {b : Addr} {o : Obj}, s₁.heap.get? b = some o → G b = none → (hidT s₁.heap G).get? b = some o := fun e n => hidT_get e n
    have only : ∀ {b : Addr} {u : HO}, G b = some u → b = a := fun {b u} q => gA b (by rw [q]; exact Option.some_ne_none _)
    have free : ∀ {b : Addr} {o : Obj} {es : Array DictEntry} {ep : Nat}, s₁.heap.get? b = some o → o.data = .dict es ep → G b = none := fun {b o es ep} e d => by
      cases q : G b with
      | none => rfl
      | some u =>
        cases only q
        rw [ha] at e
        cases e
        exact nomatch (show Data.seq vs.toArray _ = Data.dict es ep from d)
    have names : ∀ {b : Addr} {m : Str → Option Value}, s₁.heap.Ns b m → (hidT s₁.heap G).Ns b m := fun {b m} ⟨o, es, ep, e, d, r⟩ => ⟨o, es, ep, inB e (free e d), d, r⟩
    have kB : K.In (hidT s₁.heap G) := fun b o e => inB (KX b o e) (by
      cases q : G b with
      | none => rfl
      | some u =>
        cases only q
        have z := gK (by rw [q]; exact Option.some_ne_none _)
        rw [z] at e
        cases e)
    have md : Mod K mg (hidT s₁.heap G) := ⟨kB, names hns, ⟨mb, names hb, hbb⟩, let ⟨mc, h1, h2⟩ := hlim; ⟨mc, names h1, h2⟩⟩
    have e0 : Env0 P w K mg (hidT s₁.heap G) callerA [] s₁ G := ⟨rfl, md, fun b o e => of_hidT e, Nat.le_of_eq (hidT_size _ _), trivial, fun b z => absurd (show b ∈ ([] : List Addr) from z) List.not_mem_nil, gok, .of_eq hg⟩
    refine codeAny_mono ((F _ kB (names hns)).go callerA [] s₁ G ⟨[.ref a], []⟩ [.ref a] [.ref a] _ _ hr e0 (hbind s₁ (.ref a)) (.cons rfl .nil) (hsp G gO gS)) fun r s' h => ?_
    match r, h with
    | .error e, h => exact False.elim h
    | .ok .next, h => exact False.elim h
    | .ok .brk, h => exact False.elim h
    | .ok .cont, h => exact False.elim h
    | .ok (.ret u), h =>
      obtain ⟨v, G', os, bare, un, gok', r', q⟩ := h
      cases (show v = V.bl true from q)
      cases (show u = Value.bool true from r')
      refine ⟨rfl, OldK.of_keep fun b o e => ?_, os, bare⟩
      cases q : G b with
      | none => exact un.keep b o e q (fun z => absurd (show b ∈ ([] : List Addr) from z) List.not_mem_nil) List.not_mem_nil
      | some u =>
        rcases gO b with z | ⟨ob, xs, z⟩
        · rw [q] at z
          cases z
        · have z2 := un.frzs b ob _ z
          have e1 := (gok b _ z).1
          have e2 := (gok' b _ z2).1
          rw [e] at e1
          cases e1
          exact e2
  cases hk : K.lookup a with
  | some o =>
    have e := KX a o hk
    rw [ha] at e
    cases e
    exact run (fun _ => none) (fun _ => .inl rfl) (.inr ⟨_, vs.toArray, _, hk, rfl, rfl, rfl, by rw [List.size_toArray, hi.length]; exact hl, by simpa using rv⟩) (fun b u z => nomatch (show (none : Option HO) = some u from z)) (fun b z => absurd rfl z) fun z => absurd rfl z
  | none =>
    have at_ : ∀ b, b = a → (fun b => if b = a then some (HO.frz { cls := .type "list", data := .seq vs.toArray } (.lst (ns.map V.int))) else none) b = some (.frz { cls := .type "list", data := .seq vs.toArray } (.lst (ns.map V.int))) := fun b e => if_pos e
    have no_ : ∀ b, b ≠ a → (fun b => if b = a then some (HO.frz { cls := .type "list", data := .seq vs.toArray } (.lst (ns.map V.int))) else none) b = none := fun b e => if_neg e
    refine run (fun b => if b = a then some (.frz { cls := .type "list", data := .seq vs.toArray } (.lst (ns.map V.int))) else none) (fun b => ?_) (.inl (.inr ⟨{ cls := .type "list", data := .seq vs.toArray }, if_pos rfl⟩)) (fun b u z => ?_) (fun b z => ?_) fun _ => hk
    · by_cases e : b = a
      · exact .inr ⟨_, _, at_ b e⟩
      · exact .inl (no_ b e)
    · by_cases e : b = a
      · have z2 := (at_ b e).symm.trans z
        cases z2
        subst e
        exact ⟨ha, by rw [List.length_map]; exact hl, vs, _, rv, ha⟩
      · exact nomatch (no_ b e).symm.trans z
    · by_cases e : b = a
      · exact e
      · exact absurd (no_ b e) z
/-- the goal that the head leaves, as walk_of -/
theorem walk_ofG {l : PySem.W.OpenLaw} {n k : Nat} {q : Program} {loose : List Str} {XP : (Str → Option Value) → Heap → Prop} {YP : World → Heap → Prop} {d : DefRec} {K : Params → PySem.W.Frag} {sp : World → Sp} {x : Str}
    (hn : l.most = some n) (hn2 : n ≤ sizeLine) (hdf : d.params.defaults = []) (hr : RoomG k callerA) (hY : ∀ (w : World) (h : Heap), YP w h → (K w.params).In h)
    (F : ∀ (w : World) (mg : Str → Option Value) (fa : Addr) (h : Heap), (K w.params).In h → h.Ns mainGlobals mg → mg d.name = some (.ref fa) →
      ∃ fd : FuncData, (∀ (s : Shared) (u : Value), BindsTo s fd ⟨[u], []⟩ [(x, u)]) ∧ ∀ base : Heap, (K w.params).In base → base.Ns mainGlobals mg → FnG l.prog w (K w.params) mg base CX0 k fa fd [x] (sp w))
    (hsp : ∀ (w : World) (H : Hp) (a : Addr) (ns : List Int), ns.length ≤ n → Only H → SqL (K w.params) H a (ns.map V.int) → sp w [.ref a] H (fun v _ => v = .bl true) fun _ _ _ => False) :
    PySem.W.WalkO q loose XP YP l.row.toRowW d [] (fun f vs => PySem.call f vs) := by
  refine Att.attach_call hn hdf fun w s₀ s₁ mg mb fa o pm cd doc a vs ns G Y ho hd hcd hmg hobj hints hlen hg => ?_
  obtain ⟨fd, hb, hF⟩ := F w mg fa _ (hY w _ Y) G.T.g hmg
  exact law_goG (hY w _ Y) G.T.g G.T.b G.T.builtins G.T.nolimit hg hobj hints (Nat.le_trans hlen hn2) hr hF hb fun H hO hS => hsp w H a ns hlen hO hS
end
end TG
/-! writings: what they are, how they stand in the heap, their free names -/
namespace TG
open PySem PySem.Spec L2
open PyProof.Rows hiding St
/-- a writing -/
inductive Wr where
  | nm (z : Str)
  | of (x : Str) (b : Wr)
  | to (a b : Wr)
namespace Wr
/-- its signs -/
def sg : Wr → Nat
  | nm _ => 1
  | of _ b => b.sg + 1
  | to a b => a.sg + b.sg + 1
/-- its layers -/
def ly : Wr → Nat
  | nm _ => 1
  | of _ b => b.ly + 1
  | to a b => max a.ly b.ly + 1
/-- all its names are good -/
def all (p : Str → Bool) : Wr → Bool
  | nm z => p z
  | of x b => p x && b.all p
  | to a b => a.all p && b.all p
/-- its free names, each once, as they first stand -/
def fr : Wr → List Str
  | nm z => [z]
  | of x b => b.fr.filter fun z => decide (z ≠ x)
  | to a b => a.fr ++ b.fr.filter fun z => decide (z ∉ a.fr)
/-- told in tuples -/
def d : Wr → PyData
  | nm z => .str z
  | of x b => .tuple [.str "of", .str x, b.d]
  | to a b => .tuple [.str "to", a.d, b.d]
/-- told in lists -/
def dl : Wr → PyData
  | nm z => .str z
  | of x b => .list [.str "of", .str x, b.dl]
  | to a b => .list [.str "to", a.dl, b.dl]
theorem sg_pos : ∀ w : Wr, 1 ≤ w.sg
  | nm _ => Nat.le_refl _
  | of _ b => by show 1 ≤ b.sg + 1; omega
  | to a b => by show 1 ≤ a.sg + b.sg + 1; omega
theorem ly_pos : ∀ w : Wr, 1 ≤ w.ly
  | nm _ => Nat.le_refl _
  | of _ b => Nat.succ_le_succ (Nat.zero_le _)
  | to a b => Nat.succ_le_succ (Nat.zero_le _)
theorem ly_sg : ∀ w : Wr, w.ly ≤ w.sg
  | nm _ => Nat.le_refl _
  | of _ b => Nat.succ_le_succ (ly_sg b)
  | to a b => by
    have h1 := ly_sg a
    have h2 := ly_sg b
    show max a.ly b.ly + 1 ≤ a.sg + b.sg + 1
    omega
theorem fr_len : ∀ w : Wr, w.fr.length ≤ w.sg
  | nm _ => Nat.le_refl _
  | of x b => Nat.le_succ_of_le (Nat.le_trans (List.length_filter_le _ _) (fr_len b))
  | to a b => by
    have h1 := fr_len a
    have h2 := fr_len b
    have h3 := List.length_filter_le (fun z => decide (z ∉ a.fr)) b.fr
    show (a.fr ++ b.fr.filter fun z => decide (z ∉ a.fr)).length ≤ a.sg + b.sg + 1
    rw [List.length_append]
    omega
theorem fr_nodup : ∀ w : Wr, w.fr.Nodup
  | nm _ => List.nodup_cons.mpr ⟨List.not_mem_nil, List.nodup_nil⟩
  | of x b => (fr_nodup b).filter _
  | to a b => by
    refine List.nodup_append.mpr ⟨fr_nodup a, (fr_nodup b).filter _, fun x hx y hy e => ?_⟩
    subst e
    exact (of_decide_eq_true (List.mem_filter.mp hy).2) hx
theorem fr_all {p : Str → Bool} : ∀ {w : Wr}, w.all p = true → ∀ z ∈ w.fr, p z = true
  | nm z, h, y, hy => by cases List.mem_singleton.mp hy; exact h
  | of x b, h, y, hy => fr_all (Bool.and_eq_true_iff.mp h).2 y (List.mem_filter.mp hy).1
  | to a b, h, y, hy => by
    rcases List.mem_append.mp hy with hy | hy
    · exact fr_all (Bool.and_eq_true_iff.mp h).1 y hy
    · exact fr_all (Bool.and_eq_true_iff.mp h).2 y (List.mem_filter.mp hy).1
/-- the walk: around are the names bound, found those that stand ahead -/
def go : Wr → List Str → List Str → List Str
  | nm z, ar, f => if z ∈ ar ++ f then f else f ++ [z]
  | of x b, ar, f => b.go (ar ++ [x]) f
  | to a b, ar, f => b.go ar (a.go ar f)
theorem go_eq : ∀ (w : Wr) (ar f : List Str), w.go ar f = f ++ w.fr.filter fun z => decide (z ∉ ar ++ f)
  | nm z, ar, f => by
    show (if z ∈ ar ++ f then f else f ++ [z]) = f ++ [z].filter _
    by_cases h : z ∈ ar ++ f
    · rw [if_pos h, List.filter_cons_of_neg (by simp [h])]
      simp
    · rw [if_neg h, List.filter_cons_of_pos (by simpa using h)]
      rfl
  | of x b, ar, f => by
    show b.go (ar ++ [x]) f = f ++ (b.fr.filter _).filter _
    rw [go_eq b, List.filter_filter]
    congr 1
    refine List.filter_congr fun z _ => ?_
    simp only [List.mem_append, List.mem_singleton, not_or]
    by_cases h1 : z ∈ ar <;> by_cases h2 : z ∈ f <;> by_cases h3 : z = x <;> simp [h1, h2, h3]
  | to a b, ar, f => by
    show b.go ar (a.go ar f) = f ++ (a.fr ++ b.fr.filter _).filter _
    rw [go_eq b, go_eq a, List.filter_append, List.append_assoc, List.filter_filter]
    congr 2
    refine List.filter_congr fun z _ => ?_
    simp only [List.mem_append, List.mem_filter, not_or]
    by_cases h1 : z ∈ ar <;> by_cases h2 : z ∈ f <;> by_cases h3 : z ∈ a.fr <;> simp [h1, h2, h3]
/-- all these bound in front -/
def close (w : Wr) (l : List Str) : Wr := l.foldl (fun c x => .of x c) w
theorem frs_close : ∀ (l : List Str) (w : Wr), (w.close l).fr = w.fr.filter fun z => decide (z ∉ l)
  | [], w => by
    show w.fr = w.fr.filter _
    exact (List.filter_eq_self.mpr fun z _ => decide_eq_true List.not_mem_nil).symm
  | x :: l, w => by
    show ((Wr.of x w).close l).fr = _
    rw [frs_close l]
    show (w.fr.filter _).filter _ = _
    rw [List.filter_filter]
    refine List.filter_congr fun z _ => ?_
    by_cases h1 : z = x <;> by_cases h2 : z ∈ l <;> simp [h1, h2]
theorem sg_close : ∀ (l : List Str) (w : Wr), (w.close l).sg = w.sg + l.length
  | [], _ => rfl
  | x :: l, w => by
    show ((Wr.of x w).close l).sg = _
    rw [sg_close l]
    show w.sg + 1 + l.length = w.sg + (l.length + 1)
    omega
theorem all_close {p : Str → Bool} : ∀ (l : List Str) (w : Wr), w.all p = true → (∀ z ∈ l, p z = true) → (w.close l).all p = true
  | [], _, h, _ => h
  | x :: l, w, h, k => all_close l (.of x w) (Bool.and_eq_true_iff.mpr ⟨k x List.mem_cons_self, h⟩) fun z hz => k z (List.mem_cons_of_mem _ hz)
theorem close_fr (w : Wr) : (w.close w.fr).fr = [] := by
  rw [frs_close]
  exact List.filter_eq_nil_iff.mpr fun z hz => by simp [hz]
theorem close_snoc (w : Wr) (l : List Str) (x : Str) : w.close (l ++ [x]) = .of x (w.close l) := by
  show (l ++ [x]).foldl _ w = _
  rw [List.foldl_append]
  rfl
theorem go_nil (w : Wr) : w.go [] [] = w.fr := by
  rw [go_eq]
  simp
end Wr
/-- it stands at v, in tuples -/
inductive WA (H : Hp) : V → Wr → Prop where
  | nm (z : Str) : WA H (.str z) (.nm z)
  | of {a : Addr} {x : Str} {v : V} {b : Wr} : H a = some (.tup [.str "of", .str x, v]) → WA H v b → WA H (.ref a) (.of x b)
  | to {a : Addr} {u v : V} {b c : Wr} : H a = some (.tup [.str "to", u, v]) → WA H u b → WA H v c → WA H (.ref a) (.to b c)
/-- in lists, none of which stands at p -/
inductive LA (p : Addr) (H : Hp) : V → Wr → Prop where
  | nm (z : Str) : LA p H (.str z) (.nm z)
  | of {a : Addr} {x : Str} {v : V} {b : Wr} : a ≠ p → H a = some (.lst [.str "of", .str x, v]) → LA p H v b → LA p H (.ref a) (.of x b)
  | to {a : Addr} {u v : V} {b c : Wr} : a ≠ p → H a = some (.lst [.str "to", u, v]) → LA p H u b → LA p H v c → LA p H (.ref a) (.to b c)
theorem WA.mono {H H' : Hp} {v : V} {w : Wr} (h : WA H v w) (k : ∀ a xs, H a = some (.tup xs) → H' a = some (.tup xs)) : WA H' v w := by
  induction h with
  | nm z => exact .nm z
  | of e _ ih => exact .of (k _ _ e) ih
  | to e _ _ i1 i2 => exact .to (k _ _ e) i1 i2
theorem WA.same {H H' : Hp} {v : V} {w : Wr} (h : WA H v w) (s : Same H H') : WA H' v w := h.mono fun a xs e => s _ _ e
theorem LA.mono {p : Addr} {H H' : Hp} {v : V} {w : Wr} (h : LA p H v w) (k : ∀ a o, a ≠ p → H a = some o → H' a = some o) : LA p H' v w := by
  induction h with
  | nm z => exact .nm z
  | of n e _ ih => exact .of n (k _ _ n e) ih
  | to n e _ _ i1 i2 => exact .to n (k _ _ n e) i1 i2
theorem WA.dp {K : PySem.W.Frag} {H : Hp} {v : V} {w : Wr} (h : WA H v w) : Dp K H v w.d := by
  induction h with
  | nm z => exact .str z
  | of e _ ih => exact .tup (SqT.of e) (.cons (.str _) (.cons (.str _) (.cons ih .nil)))
  | to e _ _ i1 i2 => exact .tup (SqT.of e) (.cons (.str _) (.cons i1 (.cons i2 .nil)))
theorem LA.dp {K : PySem.W.Frag} {p : Addr} {H : Hp} {v : V} {w : Wr} (h : LA p H v w) : Dp K H v w.dl := by
  induction h with
  | nm z => exact .str z
  | of n e _ ih => exact .lst (SqL.of e) (.cons (.str _) (.cons (.str _) (.cons ih .nil)))
  | to n e _ _ i1 i2 => exact .lst (SqL.of e) (.cons (.str _) (.cons i1 (.cons i2 .nil)))
/-- what a value tells, be it lists or tuples -/
inductive Tells : PyData → Wr → Prop where
  | nm (z : Str) : Tells (.str z) (.nm z)
  | ofT {x : Str} {e : PyData} {b : Wr} : Tells e b → Tells (.tuple [.str "of", .str x, e]) (.of x b)
  | ofL {x : Str} {e : PyData} {b : Wr} : Tells e b → Tells (.list [.str "of", .str x, e]) (.of x b)
  | toT {e g : PyData} {b c : Wr} : Tells e b → Tells g c → Tells (.tuple [.str "to", e, g]) (.to b c)
  | toL {e g : PyData} {b c : Wr} : Tells e b → Tells g c → Tells (.list [.str "to", e, g]) (.to b c)
theorem tells_d : ∀ w : Wr, Tells w.d w
  | .nm z => .nm z
  | .of _ b => .ofT (tells_d b)
  | .to a b => .toT (tells_d a) (tells_d b)
theorem tells_dl : ∀ w : Wr, Tells w.dl w
  | .nm z => .nm z
  | .of _ b => .ofL (tells_dl b)
  | .to a b => .toL (tells_dl a) (tells_dl b)
/-- a name that the rules let be one -/
def okN (z : Str) : Bool := decide (z ≠ "of") && decide (z ≠ "to") && (decide (1 ≤ z.length) && decide (z.length ≤ 12)) &&
  (match z.cps.toList with
    | [] => false
    | c :: r => decide (97 ≤ c ∧ c ≤ 122) && r.all fun c => decide (97 ≤ c ∧ c ≤ 122) || decide (48 ≤ c ∧ c ≤ 57))
/-- a tuple of names, shown -/
def nmsD (l : List Str) : PyData := .tuple (l.map PyData.str)
theorem nms_showable : ∀ l : List Str, (nmsD l).showable = true
  | [] => rfl
  | z :: r => nms_showable r
theorem nms_noDict : ∀ l : List Str, (nmsD l).hasDict = false
  | [] => rfl
  | z :: r => nms_noDict r
theorem nms_depth : ∀ l : List Str, (nmsD l).depth ≤ 1
  | [] => Nat.le_refl _
  | z :: r => by
    have h := nms_depth r
    show max 0 (PyData.depthAll (r.map PyData.str)) + 1 ≤ 1
    have h2 : PyData.depthAll (r.map PyData.str) + 1 ≤ 1 := h
    omega
theorem ok_signs {z : Str} (h : okN z = true) : z.length ≤ 12 ∧ z.cps.toList.all (fun c => decide (c < 128)) = true := by
  unfold okN at h
  simp only [Bool.and_eq_true, decide_eq_true_eq] at h
  obtain ⟨⟨_, _, h1⟩, h2⟩ := h
  refine ⟨h1, ?_⟩
  revert h2
  cases z.cps.toList with
  | nil => intro h2; rfl
  | cons c r =>
    intro h2
    simp only [Bool.and_eq_true, decide_eq_true_eq, List.all_eq_true] at h2
    rw [List.all_cons, Bool.and_eq_true]
    refine ⟨decide_eq_true (by omega), List.all_eq_true.mpr fun x hx => decide_eq_true ?_⟩
    have z2 := h2.2 x hx
    simp only [Bool.or_eq_true, decide_eq_true_eq] at z2
    omega
theorem nms_short {l : List Str} (h : ∀ z ∈ l, okN z = true) : (nmsD l).leavesShort 8 = true ∧ (nmsD l).bulk ≤ 13 * l.length := by
  induction l with
  | nil => exact ⟨rfl, Nat.zero_le _⟩
  | cons z r ih =>
    obtain ⟨h1, h2⟩ := ih fun y hy => h y (List.mem_cons_of_mem _ hy)
    obtain ⟨z1, z2⟩ := ok_signs (h z List.mem_cons_self)
    refine ⟨?_, ?_⟩
    · show (PyData.leavesShort 8 (.str z) && PyData.leavesShortAll 8 (r.map PyData.str)) = true
      rw [Bool.and_eq_true]
      refine ⟨?_, h1⟩
      show (z.cps.toList.all fun c => decide (c < 16 ^ 8)) = true
      refine List.all_eq_true.mpr fun c hc => decide_eq_true ?_
      have e := of_decide_eq_true (List.all_eq_true.mp z2 c hc)
      exact Nat.lt_trans e (by decide)
    · have h3 : PyData.bulkAll (r.map PyData.str) ≤ 13 * r.length := h2
      have h4 : z.cps.size ≤ 12 := z1
      show z.cps.size + 1 + PyData.bulkAll (r.map PyData.str) ≤ 13 * (r.length + 1)
      omega
theorem nms_fits {l : List Str} (h : ∀ z ∈ l, okN z = true) (hl : l.length ≤ 2000) : (nmsD l).shown.length ≤ sizeLine := by
  obtain ⟨h1, h2⟩ := nms_short h
  exact PyData.shown_fits_bulk (B := 8) (by decide) (by decide) h1 (by omega)
theorem nms_lay {l : List Str} (h : ∀ z ∈ l, okN z = true) : SeqAt.shaped (nmsD l) = true := by
  unfold SeqAt.shaped
  rw [Bool.and_eq_true]
  refine ⟨?_, decide_eq_true (Nat.le_trans (nms_depth l) (by decide))⟩
  induction l with
  | nil => rfl
  | cons z r ih =>
    show (PyData.canLay0 (.str z) && PyData.canLayAll0 (r.map PyData.str)) = true
    rw [Bool.and_eq_true]
    refine ⟨?_, ih fun y hy => h y (List.mem_cons_of_mem _ hy)⟩
    obtain ⟨_, z2⟩ := ok_signs (h z List.mem_cons_self)
    show (z.cps.all fun c => decide (c < 0x110000)) = true
    rw [← Array.all_toList]
    refine List.all_eq_true.mpr fun c hc => decide_eq_true ?_
    exact Nat.lt_trans (of_decide_eq_true (List.all_eq_true.mp z2 c hc)) (by decide)
theorem dp_strs {K : PySem.W.Frag} {H : Hp} : ∀ l : List Str, DpAll K H (l.map V.str) (l.map PyData.str)
  | [] => .nil
  | z :: r => .cons (.str z) (dp_strs r)
/-- what free_names promises: of any value that tells a good writing, the tuple of its free names -/
def spFree (K : PySem.W.Frag) : Sp := fun vs H Q _ => ∃ (v : V) (e : PyData) (w : Wr), vs = [v] ∧ Dp K H v e ∧ Tells e w ∧ w.all okN = true ∧ w.sg ≤ 2000 ∧ w.ly ≤ 200 ∧
  ∀ (a : Addr) (H' : Hp), Same H H' → SqT K H' a (w.fr.map V.str) → Q (.ref a) H'
end TG
/-! writings with their bound names counted outwards; what is put in them -/
namespace TG
open PySem PySem.Spec L2
open PyProof.Rows hiding St
inductive Bt where
  | bd (n : Nat)
  | fr (z : Str)
  | of (b : Bt)
  | to (a b : Bt)
deriving DecidableEq
namespace Bt
/-- the name is free in it -/
def uses (z : Str) : Bt → Bool
  | bd _ => false
  | fr y => decide (y = z)
  | of b => b.uses z
  | to a b => a.uses z || b.uses z
/-- something put for a free name -/
def sub : Bt → Str → Bt → Bt
  | bd n, _, _ => bd n
  | fr y, z, t => if y = z then t else fr y
  | of b, z, t => of (b.sub z t)
  | to a b, z, t => to (a.sub z t) (b.sub z t)
/-- a free name bound, k of the others being around -/
def bind (z : Str) : Nat → Bt → Bt
  | _, bd n => bd n
  | k, fr y => if y = z then bd k else fr y
  | k, of b => of (b.bind z (k + 1))
  | k, to a b => to (a.bind z k) (b.bind z k)
def ly : Bt → Nat
  | bd _ => 1
  | fr _ => 1
  | of b => b.ly + 1
  | to a b => max a.ly b.ly + 1
def all (p : Str → Bool) : Bt → Bool
  | bd _ => true
  | fr z => p z
  | of b => b.all p
  | to a b => a.all p && b.all p
theorem sub_none {z : Str} {t : Bt} : ∀ {b : Bt}, b.uses z = false → b.sub z t = b
  | bd _, _ => rfl
  | fr y, h => if_neg (of_decide_eq_false h)
  | of b, h => congrArg of (sub_none (b := b) h)
  | to a b, h => by
    obtain ⟨h1, h2⟩ := Bool.or_eq_false_iff.mp h
    show to _ _ = _
    rw [sub_none h1, sub_none h2]
theorem sub_self (z : Str) : ∀ b : Bt, b.sub z (fr z) = b
  | bd _ => rfl
  | fr y => by
    show (if y = z then fr z else fr y) = fr y
    by_cases h : y = z
    · rw [if_pos h, h]
    · rw [if_neg h]
  | of b => congrArg of (sub_self z b)
  | to a b => by
    show to _ _ = _
    rw [sub_self z a, sub_self z b]
theorem bind_none {z : Str} : ∀ {b : Bt} (k : Nat), b.uses z = false → b.bind z k = b
  | bd _, _, _ => rfl
  | fr y, _, h => if_neg (of_decide_eq_false h)
  | of b, k, h => congrArg of (bind_none (b := b) (k + 1) h)
  | to a b, k, h => by
    obtain ⟨h1, h2⟩ := Bool.or_eq_false_iff.mp h
    show to _ _ = _
    rw [bind_none k h1, bind_none k h2]
theorem uses_bind (z : Str) : ∀ (b : Bt) (k : Nat), (b.bind z k).uses z = false
  | bd _, _ => rfl
  | fr y, k => by
    show (if y = z then bd k else fr y).uses z = false
    by_cases h : y = z
    · rw [if_pos h]
      rfl
    · rw [if_neg h]
      exact decide_eq_false h
  | of b, k => uses_bind z b (k + 1)
  | to a b, k => by
    show ((a.bind z k).uses z || (b.bind z k).uses z) = false
    rw [uses_bind z a, uses_bind z b]
    rfl
theorem uses_bind_ne {z y : Str} (n : y ≠ z) : ∀ (b : Bt) (k : Nat), (b.bind z k).uses y = b.uses y
  | bd _, _ => rfl
  | fr x, k => by
    show (if x = z then bd k else fr x).uses y = decide (x = y)
    by_cases h : x = z
    · rw [if_pos h, decide_eq_false fun e => n (e.symm.trans h)]
      rfl
    · rw [if_neg h]
      rfl
  | of b, k => uses_bind_ne n b (k + 1)
  | to a b, k => by
    show ((a.bind z k).uses y || (b.bind z k).uses y) = (a.uses y || b.uses y)
    rw [uses_bind_ne n a, uses_bind_ne n b]
theorem uses_sub {z y : Str} {t : Bt} : ∀ b : Bt, (b.sub z t).uses y = ((b.uses y && decide (y ≠ z)) || (b.uses z && t.uses y))
  | bd _ => rfl
  | fr x => by
    show (if x = z then t else fr x).uses y = ((decide (x = y) && decide (y ≠ z)) || (decide (x = z) && t.uses y))
    by_cases h : x = z
    · subst h
      rw [if_pos rfl, decide_eq_true rfl, Bool.true_and]
      by_cases e : x = y
      · subst e
        simp
      · rw [decide_eq_false e]
        rfl
    · rw [if_neg h, decide_eq_false h, Bool.false_and, Bool.or_false]
      show decide (x = y) = _
      by_cases e : x = y
      · subst e
        simp [h]
      · rw [decide_eq_false e]
        rfl
  | of b => uses_sub b
  | to a b => by
    show ((a.sub z t).uses y || (b.sub z t).uses y) = (((a.uses y || b.uses y) && decide (y ≠ z)) || ((a.uses z || b.uses z) && t.uses y))
    rw [uses_sub a, uses_sub b]
    cases a.uses y <;> cases b.uses y <;> cases a.uses z <;> cases b.uses z <;> cases t.uses y <;> cases decide (y ≠ z) <;> rfl
/-- put in one behind the other -/
theorem sub_sub {x y : Str} {a b : Bt} (n : x ≠ y) (h : b.uses x = false) : ∀ m : Bt, (m.sub x a).sub y b = (m.sub y b).sub x (a.sub y b)
  | bd _ => rfl
  | fr z => by
    show (if z = x then a else fr z).sub y b = (if z = y then b else fr z).sub x (a.sub y b)
    by_cases h1 : z = x
    · have h2 : ¬ z = y := fun e => n (h1.symm.trans e)
      rw [if_pos h1, if_neg h2]
      show _ = if z = x then _ else _
      rw [if_pos h1]
    · rw [if_neg h1]
      show (if z = y then b else fr z) = _
      by_cases h2 : z = y
      · rw [if_pos h2, sub_none h]
      · rw [if_neg h2]
        show _ = if z = x then _ else fr z
        rw [if_neg h1]
  | of m => congrArg of (sub_sub n h m)
  | to p q => by
    show to _ _ = to _ _
    rw [sub_sub n h p, sub_sub n h q]
/-- what is put under a binder whose name is not in it -/
theorem bind_sub {x y : Str} {a : Bt} (n : x ≠ y) (h : a.uses y = false) : ∀ (m : Bt) (k : Nat), (m.sub x a).bind y k = (m.bind y k).sub x a
  | bd _, _ => rfl
  | fr z, k => by
    show (if z = x then a else fr z).bind y k = (if z = y then bd k else fr z).sub x a
    by_cases h1 : z = x
    · have h2 : ¬ z = y := fun e => n (h1.symm.trans e)
      rw [if_pos h1, if_neg h2, bind_none k h]
      show _ = if z = x then _ else _
      rw [if_pos h1]
    · rw [if_neg h1]
      show (if z = y then bd k else fr z) = _
      by_cases h2 : z = y
      · rw [if_pos h2]
        rfl
      · rw [if_neg h2]
        show _ = if z = x then _ else fr z
        rw [if_neg h1]
  | of m, k => congrArg of (bind_sub n h m (k + 1))
  | to p q, k => by
    show to _ _ = to _ _
    rw [bind_sub n h p, bind_sub n h q]
/-- a name exchanged for a new one, and that bound -/
theorem bind_new {y u : Str} : ∀ (m : Bt) (k : Nat), m.uses u = false → (m.sub y (fr u)).bind u k = m.bind y k
  | bd _, _, _ => rfl
  | fr z, k, h => by
    have nu : ¬ z = u := of_decide_eq_false h
    show (if z = y then fr u else fr z).bind u k = if z = y then bd k else fr z
    by_cases h1 : z = y
    · rw [if_pos h1, if_pos h1]
      exact if_pos rfl
    · rw [if_neg h1, if_neg h1]
      exact if_neg nu
  | of m, k, h => congrArg of (bind_new m (k + 1) h)
  | to p q, k, h => by
    obtain ⟨h1, h2⟩ := Bool.or_eq_false_iff.mp h
    show to _ _ = to _ _
    rw [bind_new p k h1, bind_new q k h2]
/-- a name exchanged for a new one, and something put for that -/
theorem sub_new {x u : Str} {a : Bt} : ∀ m : Bt, m.uses u = false → (m.sub x (fr u)).sub u a = m.sub x a
  | bd _, _ => rfl
  | fr z, h => by
    have nu : ¬ z = u := of_decide_eq_false h
    show (if z = x then fr u else fr z).sub u a = if z = x then a else fr z
    by_cases h1 : z = x
    · rw [if_pos h1, if_pos h1]
      exact if_pos rfl
    · rw [if_neg h1, if_neg h1]
      exact if_neg nu
  | of m, h => congrArg of (sub_new m h)
  | to p q, h => by
    obtain ⟨h1, h2⟩ := Bool.or_eq_false_iff.mp h
    show to _ _ = to _ _
    rw [sub_new p h1, sub_new q h2]
theorem ly_pos : ∀ b : Bt, 1 ≤ b.ly
  | bd _ => Nat.le_refl _
  | fr _ => Nat.le_refl _
  | of b => Nat.succ_le_succ (Nat.zero_le _)
  | to a b => Nat.succ_le_succ (Nat.zero_le _)
theorem ly_sub (z : Str) (t : Bt) : ∀ b : Bt, (b.sub z t).ly ≤ b.ly + t.ly
  | bd _ => Nat.le_add_right _ _
  | fr y => by
    show (if y = z then t else fr y).ly ≤ 1 + t.ly
    by_cases h : y = z
    · rw [if_pos h]; omega
    · rw [if_neg h]; exact Nat.le_add_right _ _
  | of b => by
    have := ly_sub z t b
    show (b.sub z t).ly + 1 ≤ b.ly + 1 + t.ly
    omega
  | to a b => by
    have h1 := ly_sub z t a
    have h2 := ly_sub z t b
    show max (a.sub z t).ly (b.sub z t).ly + 1 ≤ max a.ly b.ly + 1 + t.ly
    omega
theorem all_sub {p : Str → Bool} {z : Str} {t : Bt} (ht : t.all p = true) : ∀ {b : Bt}, b.all p = true → (b.sub z t).all p = true
  | bd _, _ => rfl
  | fr y, h => by
    show (if y = z then t else fr y).all p = true
    by_cases e : y = z
    · rw [if_pos e]; exact ht
    · rw [if_neg e]; exact h
  | of b, h => all_sub ht (b := b) h
  | to a b, h => Bool.and_eq_true_iff.mpr ⟨all_sub ht (Bool.and_eq_true_iff.mp h).1, all_sub ht (Bool.and_eq_true_iff.mp h).2⟩
end Bt
namespace Wr
/-- its bound names counted outwards, those around the nearest first -/
def cnt : Wr → List Str → Bt
  | nm z, ar => if z ∈ ar then .bd (ar.idxOf z) else .fr z
  | of x b, ar => .of (b.cnt (x :: ar))
  | to a b, ar => .to (a.cnt ar) (b.cnt ar)
theorem cnt_ly : ∀ (w : Wr) (ar : List Str), (w.cnt ar).ly = w.ly
  | nm z, ar => by
    show (if z ∈ ar then Bt.bd (ar.idxOf z) else .fr z).ly = 1
    split <;> rfl
  | of x b, ar => congrArg (· + 1) (cnt_ly b (x :: ar))
  | to a b, ar => by
    show max (a.cnt ar).ly (b.cnt ar).ly + 1 = max a.ly b.ly + 1
    rw [cnt_ly a, cnt_ly b]
theorem cnt_all {p : Str → Bool} : ∀ {w : Wr} (ar : List Str), w.all p = true → (w.cnt ar).all p = true
  | nm z, ar, h => by
    show (if z ∈ ar then Bt.bd (ar.idxOf z) else .fr z).all p = true
    split
    · rfl
    · exact h
  | of x b, ar, h => cnt_all (w := b) (x :: ar) (Bool.and_eq_true_iff.mp h).2
  | to a b, ar, h => Bool.and_eq_true_iff.mpr ⟨cnt_all ar (Bool.and_eq_true_iff.mp h).1, cnt_all ar (Bool.and_eq_true_iff.mp h).2⟩
/-- a name more, outside of all others -/
theorem cnt_snoc (y : Str) : ∀ (w : Wr) (ar : List Str), w.cnt (ar ++ [y]) = (w.cnt ar).bind y ar.length
  | nm z, ar => by
    show (if z ∈ ar ++ [y] then Bt.bd ((ar ++ [y]).idxOf z) else .fr z) = (if z ∈ ar then Bt.bd (ar.idxOf z) else .fr z).bind y ar.length
    by_cases h : z ∈ ar
    · rw [if_pos (List.mem_append_left _ h), if_pos h, List.idxOf_append, if_pos h]
      rfl
    · rw [if_neg h]
      show _ = if z = y then Bt.bd ar.length else .fr z
      by_cases e : z = y
      · subst e
        rw [if_pos rfl, if_pos (List.mem_append_right _ (List.mem_singleton_self z)), List.idxOf_append, if_neg h, List.idxOf_cons_self]
        congr 1
        omega
      · rw [if_neg e, if_neg]
        intro q
        rcases List.mem_append.mp q with q | q
        · exact h q
        · exact e (List.mem_singleton.mp q)
  | of x b, ar => congrArg Bt.of (cnt_snoc y b (x :: ar))
  | to a b, ar => by
    show Bt.to _ _ = Bt.to _ _
    rw [cnt_snoc y a, cnt_snoc y b]
theorem cnt_of (x : Str) (b : Wr) : (Wr.of x b).cnt [] = .of ((b.cnt []).bind x 0) := congrArg Bt.of (cnt_snoc x b [])
theorem uses_cnt (z : Str) : ∀ (w : Wr) (ar : List Str), (w.cnt ar).uses z = decide (z ∈ w.fr ∧ z ∉ ar)
  | nm y, ar => by
    show (if y ∈ ar then Bt.bd (ar.idxOf y) else .fr y).uses z = decide (z ∈ [y] ∧ z ∉ ar)
    by_cases h : y ∈ ar
    · rw [if_pos h]
      refine (decide_eq_false ?_).symm
      rintro ⟨h1, h2⟩
      exact h2 (List.mem_singleton.mp h1 ▸ h)
    · rw [if_neg h]
      show decide (y = z) = _
      by_cases e : y = z
      · subst e
        rw [decide_eq_true rfl, decide_eq_true ⟨List.mem_singleton_self y, h⟩]
      · rw [decide_eq_false e, decide_eq_false]
        exact fun q => e (List.mem_singleton.mp q.1).symm
  | of x b, ar => by
    show (b.cnt (x :: ar)).uses z = decide (z ∈ (b.fr.filter fun z => decide (z ≠ x)) ∧ z ∉ ar)
    rw [uses_cnt z b]
    refine decide_eq_decide.mpr ?_
    simp only [List.mem_filter, List.mem_cons, decide_eq_true_eq, not_or]
    constructor
    · rintro ⟨h1, h2, h3⟩
      exact ⟨⟨h1, h2⟩, h3⟩
    · rintro ⟨⟨h1, h2⟩, h3⟩
      exact ⟨h1, h2, h3⟩
  | to a b, ar => by
    show ((a.cnt ar).uses z || (b.cnt ar).uses z) = decide (z ∈ (a.fr ++ b.fr.filter fun z => decide (z ∉ a.fr)) ∧ z ∉ ar)
    rw [uses_cnt z a, uses_cnt z b, Bool.eq_iff_iff]
    simp only [Bool.or_eq_true, decide_eq_true_eq, List.mem_append, List.mem_filter]
    by_cases h1 : z ∈ a.fr <;> by_cases h2 : z ∈ b.fr <;> by_cases h3 : z ∈ ar <;> simp [h1, h2, h3]
/-- alike in writing -/
def alk (w v : Wr) : Bool := decide (w.cnt [] = v.cnt [])
end Wr
end TG
/-! counted writings in the heap; what put and alike promise -/
namespace TG
open PySem PySem.Spec L2
open PyProof.Rows hiding St
namespace Bt
def sg : Bt → Nat
  | bd _ => 1
  | fr _ => 1
  | of b => b.sg + 1
  | to a b => a.sg + b.sg + 1
theorem sg_pos : ∀ b : Bt, 1 ≤ b.sg
  | bd _ => Nat.le_refl _
  | fr _ => Nat.le_refl _
  | of b => Nat.succ_le_succ (Nat.zero_le _)
  | to a b => Nat.succ_le_succ (Nat.zero_le _)
theorem sg_sub (z : Str) (t : Bt) : ∀ b : Bt, (b.sub z t).sg ≤ b.sg * t.sg
  | bd _ => by
    have := t.sg_pos
    show 1 ≤ 1 * t.sg
    omega
  | fr y => by
    have := t.sg_pos
    show (if y = z then t else fr y).sg ≤ 1 * t.sg
    by_cases h : y = z
    · rw [if_pos h]; omega
    · rw [if_neg h]; show 1 ≤ 1 * t.sg; omega
  | of b => by
    have h := sg_sub z t b
    have := t.sg_pos
    show (b.sub z t).sg + 1 ≤ (b.sg + 1) * t.sg
    rw [Nat.add_mul]
    omega
  | to a b => by
    have h1 := sg_sub z t a
    have h2 := sg_sub z t b
    have := t.sg_pos
    show (a.sub z t).sg + (b.sub z t).sg + 1 ≤ (a.sg + b.sg + 1) * t.sg
    rw [Nat.add_mul, Nat.add_mul]
    omega
/-- its leaves -/
def lv : Bt → Nat
  | bd _ => 1
  | fr _ => 1
  | of b => b.lv
  | to a b => a.lv + b.lv
theorem lv_sg : ∀ b : Bt, 2 * b.lv ≤ b.sg + 1
  | bd _ => Nat.le_refl _
  | fr _ => Nat.le_refl _
  | of b => by
    have h := lv_sg b
    show 2 * b.lv ≤ b.sg + 1 + 1
    omega
  | to a b => by
    have h1 := lv_sg a
    have h2 := lv_sg b
    show 2 * (a.lv + b.lv) ≤ a.sg + b.sg + 1 + 1
    omega
theorem lv_pos : ∀ b : Bt, 1 ≤ b.lv
  | bd _ => Nat.le_refl _
  | fr _ => Nat.le_refl _
  | of b => lv_pos b
  | to a b => Nat.le_trans (lv_pos a) (Nat.le_add_right _ _)
theorem lv_sub (z : Str) (t : Bt) : ∀ b : Bt, (b.sub z t).lv ≤ b.lv * t.lv
  | bd _ => by
    have := t.lv_pos
    show 1 ≤ 1 * t.lv
    omega
  | fr y => by
    have := t.lv_pos
    show (if y = z then t else fr y).lv ≤ 1 * t.lv
    by_cases h : y = z
    · rw [if_pos h]; omega
    · rw [if_neg h]; show 1 ≤ 1 * t.lv; omega
  | of b => lv_sub z t b
  | to a b => by
    have h1 := lv_sub z t a
    have h2 := lv_sub z t b
    show (a.sub z t).lv + (b.sub z t).lv ≤ (a.lv + b.lv) * t.lv
    rw [Nat.add_mul]
    omega
theorem sg_sub2 (z : Str) (t : Bt) : ∀ b : Bt, (b.sub z t).sg ≤ b.sg + b.lv * t.sg
  | bd _ => Nat.le_add_right _ _
  | fr y => by
    show (if y = z then t else fr y).sg ≤ 1 + 1 * t.sg
    by_cases h : y = z
    · rw [if_pos h]; omega
    · rw [if_neg h]; exact Nat.le_add_right _ _
  | of b => by
    have h := sg_sub2 z t b
    show (b.sub z t).sg + 1 ≤ b.sg + 1 + b.lv * t.sg
    omega
  | to a b => by
    have h1 := sg_sub2 z t a
    have h2 := sg_sub2 z t b
    show (a.sub z t).sg + (b.sub z t).sg + 1 ≤ a.sg + b.sg + 1 + (a.lv + b.lv) * t.sg
    rw [Nat.add_mul]
    omega
def d : Bt → PyData
  | bd n => .tuple [.str "bound", .int (n : Int)]
  | fr z => .tuple [.str "free", .str z]
  | of b => .tuple [.str "of", b.d]
  | to a b => .tuple [.str "to", a.d, b.d]
theorem d_depth : ∀ b : Bt, b.d.depth = b.ly
  | bd _ => rfl
  | fr _ => rfl
  | of b => by
    have h := d_depth b
    show max 0 (max b.d.depth 0) + 1 = b.ly + 1
    rw [h]
    omega
  | to a b => by
    have h1 := d_depth a
    have h2 := d_depth b
    show max 0 (max a.d.depth (max b.d.depth 0)) + 1 = max a.ly b.ly + 1
    rw [h1, h2]
    omega
theorem ok_lay {z : Str} (h : okN z = true) : PyData.canLay0 (.str z) = true := by
  have e := nms_lay (l := [z]) fun y hy => by rw [List.mem_singleton.mp hy]; exact h
  have c := SeqAt.canLay_of_shaped e
  have c2 : (PyData.canLay0 (.str z) && PyData.canLayAll0 []) = true := c
  exact (Bool.and_eq_true_iff.mp c2).1
theorem d_lay : ∀ {b : Bt}, b.all okN = true → b.d.canLay0 = true
  | bd _, _ => by
    show (PyData.canLay0 (.str "bound") && (PyData.canLay0 (.int _) && PyData.canLayAll0 [])) = true
    rw [show PyData.canLay0 (.str "bound") = true by decide +kernel]
    rfl
  | fr z, h => by
    show (PyData.canLay0 (.str "free") && (PyData.canLay0 (.str z) && PyData.canLayAll0 [])) = true
    rw [show PyData.canLay0 (.str "free") = true by decide +kernel, ok_lay h]
    rfl
  | of b, h => by
    show (PyData.canLay0 (.str "of") && (b.d.canLay0 && PyData.canLayAll0 [])) = true
    rw [show PyData.canLay0 (.str "of") = true by decide +kernel, d_lay (b := b) h]
    rfl
  | to a b, h => by
    show (PyData.canLay0 (.str "to") && (a.d.canLay0 && (b.d.canLay0 && PyData.canLayAll0 []))) = true
    rw [show PyData.canLay0 (.str "to") = true by decide +kernel, d_lay (Bool.and_eq_true_iff.mp h).1, d_lay (Bool.and_eq_true_iff.mp h).2]
    rfl
theorem d_shaped {b : Bt} (h : b.all okN = true) (l : b.ly ≤ 64) : SeqAt.shaped b.d = true := by
  unfold SeqAt.shaped
  rw [d_lay h, d_depth b, decide_eq_true l]
  rfl
theorem tag_ne {p q : Str} (n : (p == q) = false) (xs ys : List PyData) : PyData.eqv (.tuple (.str p :: xs)) (.tuple (.str q :: ys)) = false := by
  show ((p == q) && PyData.eqvAll xs ys) = false
  rw [n]
  rfl
theorem d_eqv : ∀ a b : Bt, PyData.eqv a.d b.d = decide (a = b)
  | bd n, bd m => by
    show (("bound" : Str) == "bound" && (((n : Int) == (m : Int)) && true)) = _
    rw [Bool.eq_iff_iff]
    simp
    omega
  | fr z, fr y => by
    show (("free" : Str) == "free" && ((z == y) && true)) = _
    rw [Bool.eq_iff_iff]
    simp
  | of a, of b => by
    show (("of" : Str) == "of" && (PyData.eqv a.d b.d && true)) = _
    rw [d_eqv a b, Bool.eq_iff_iff]
    simp
  | to a b, to c e => by
    show (("to" : Str) == "to" && (PyData.eqv a.d c.d && (PyData.eqv b.d e.d && true))) = _
    rw [d_eqv a c, d_eqv b e, Bool.eq_iff_iff]
    simp
  | bd n, fr z' => (tag_ne (by decide +kernel) _ _).trans (decide_eq_false (fun z => by cases z)).symm
  | bd n, of b' => (tag_ne (by decide +kernel) _ _).trans (decide_eq_false (fun z => by cases z)).symm
  | bd n, to b' c' => (tag_ne (by decide +kernel) _ _).trans (decide_eq_false (fun z => by cases z)).symm
  | fr z, bd n' => (tag_ne (by decide +kernel) _ _).trans (decide_eq_false (fun z => by cases z)).symm
  | fr z, of b' => (tag_ne (by decide +kernel) _ _).trans (decide_eq_false (fun z => by cases z)).symm
  | fr z, to b' c' => (tag_ne (by decide +kernel) _ _).trans (decide_eq_false (fun z => by cases z)).symm
  | of b, bd n' => (tag_ne (by decide +kernel) _ _).trans (decide_eq_false (fun z => by cases z)).symm
  | of b, fr z' => (tag_ne (by decide +kernel) _ _).trans (decide_eq_false (fun z => by cases z)).symm
  | of b, to b' c' => (tag_ne (by decide +kernel) _ _).trans (decide_eq_false (fun z => by cases z)).symm
  | to b c, bd n' => (tag_ne (by decide +kernel) _ _).trans (decide_eq_false (fun z => by cases z)).symm
  | to b c, fr z' => (tag_ne (by decide +kernel) _ _).trans (decide_eq_false (fun z => by cases z)).symm
  | to b c, of b' => (tag_ne (by decide +kernel) _ _).trans (decide_eq_false (fun z => by cases z)).symm
end Bt
theorem Wr.cnt_sg : ∀ (w : Wr) (ar : List Str), (w.cnt ar).sg = w.sg
  | .nm z, ar => by
    show (if z ∈ ar then Bt.bd (ar.idxOf z) else .fr z).sg = 1
    split <;> rfl
  | .of x b, ar => congrArg (· + 1) (Wr.cnt_sg b (x :: ar))
  | .to a b, ar => by
    show (a.cnt ar).sg + (b.cnt ar).sg + 1 = a.sg + b.sg + 1
    rw [Wr.cnt_sg a, Wr.cnt_sg b]
/-- a counted one stands at v -/
inductive TA (H : Hp) : V → Bt → Prop where
  | bd {a : Addr} {n : Nat} : H a = some (.tup [.str "bound", .int (n : Int)]) → TA H (.ref a) (.bd n)
  | fr {a : Addr} {z : Str} : H a = some (.tup [.str "free", .str z]) → TA H (.ref a) (.fr z)
  | of {a : Addr} {v : V} {b : Bt} : H a = some (.tup [.str "of", v]) → TA H v b → TA H (.ref a) (.of b)
  | to {a : Addr} {u v : V} {b c : Bt} : H a = some (.tup [.str "to", u, v]) → TA H u b → TA H v c → TA H (.ref a) (.to b c)
theorem TA.mono {H H' : Hp} {v : V} {b : Bt} (h : TA H v b) (k : ∀ a xs, H a = some (.tup xs) → H' a = some (.tup xs)) : TA H' v b := by
  induction h with
  | bd e => exact .bd (k _ _ e)
  | fr e => exact .fr (k _ _ e)
  | of e _ ih => exact .of (k _ _ e) ih
  | to e _ _ i1 i2 => exact .to (k _ _ e) i1 i2
theorem TA.same {H H' : Hp} {v : V} {b : Bt} (h : TA H v b) (s : Same H H') : TA H' v b := h.mono fun a xs e => s _ _ e
theorem TA.dp {K : PySem.W.Frag} {H : Hp} {v : V} {b : Bt} (h : TA H v b) : Dp K H v b.d := by
  induction h with
  | bd e => exact .tup (SqT.of e) (.cons (.str _) (.cons (.int _) .nil))
  | fr e => exact .tup (SqT.of e) (.cons (.str _) (.cons (.str _) .nil))
  | of e _ ih => exact .tup (SqT.of e) (.cons (.str _) (.cons ih .nil))
  | to e _ _ i1 i2 => exact .tup (SqT.of e) (.cons (.str _) (.cons i1 (.cons i2 .nil)))
/-- what put promises: a writing in tuples that is, counted outwards, what must be -/
def spPut (K : PySem.W.Frag) : Sp := fun vs H Q _ => ∃ (v u : V) (x : Str) (d e : PyData) (w a : Wr), vs = [v, .str x, u] ∧ Dp K H v d ∧ Tells d w ∧ w.all okN = true ∧ w.sg ≤ 2000 ∧ w.ly ≤ 200 ∧ okN x = true ∧ Dp K H u e ∧ Tells e a ∧ a.all okN = true ∧ a.sg ≤ 2000 ∧ a.ly ≤ 200 ∧
  ((w.cnt []).sub x (a.cnt [])).sg ≤ 2000 ∧ ((w.cnt []).sub x (a.cnt [])).ly ≤ 200 ∧
  ∀ (v' : V) (w' : Wr) (H' : Hp), Same H H' → WA H' v' w' → w'.all okN = true → w'.cnt [] = (w.cnt []).sub x (a.cnt []) → Q v' H'
/-- what alike promises -/
def spAlike (K : PySem.W.Frag) : Sp := fun vs H Q _ => ∃ (v u : V) (d e : PyData) (w a : Wr), vs = [v, u] ∧ Dp K H v d ∧ Tells d w ∧ w.all okN = true ∧ w.sg ≤ 2000 ∧ w.ly ≤ 200 ∧ Dp K H u e ∧ Tells e a ∧ a.all okN = true ∧ a.sg ≤ 2000 ∧ a.ly ≤ 200 ∧
  ∀ (H' : Hp), Same H H' → Q (.bl (w.alk a)) H'
end TG
/-! small words for lists of names, tuples, slices -/
namespace TG
open PySem PySem.Spec L2
open PyProof.Rows hiding St
theorem new_same {H : Hp} {q : Addr} {o : HO} (h : H q = none) : Same H (L2.upd H q o) := fun b u hb => by rw [upd_ne (ne_of_none hb h)]; exact hb
theorem take_more {α : Type} {xs : List α} {i : Nat} {x : α} (h : xs[i]? = some x) : xs.take (i + 1) = xs.take i ++ [x] := by
  rw [List.take_add_one, h]
  rfl
theorem last_snoc (l : List V) (x : V) : (l ++ [x])[(l ++ [x]).length - 1]? = some x := by simp
theorem inV_strs (z : Str) (l : List Str) : inV (.str z) (l.map V.str) = decide (z ∈ l) := by
  unfold inV
  rw [Bool.eq_iff_iff, List.any_eq_true, decide_eq_true_eq]
  constructor
  · rintro ⟨y, hy, e⟩
    obtain ⟨x, hx, rfl⟩ := List.mem_map.mp hy
    have h : x = z := by simpa [eqV] using e
    exact h ▸ hx
  · exact fun h => ⟨.str z, List.mem_map.mpr ⟨z, h, rfl⟩, by simp [eqV]⟩
theorem flat_strs (l : List Str) : (l.map V.str).all flatV = true := List.all_eq_true.mpr fun y hy => by
  obtain ⟨x, _, rfl⟩ := List.mem_map.mp hy
  rfl
theorem sqT_same {K : PySem.W.Frag} {H H' : Hp} {a : Addr} {xs : List V} (h : SqT K H a xs) (s : Same H H') : SqT K H' a xs := by
  rcases h with h | h
  · rcases h with h | ⟨o, h⟩
    · exact .inl (.inl (s _ _ h))
    · exact .inl (.inr ⟨o, s _ _ h⟩)
  · exact .inr h
theorem cat_any {K : PySem.W.Frag} {H : Hp} {a b : Addr} {xs ys : List V} {Q : VK} (ha : SqT K H a xs) (hb : SqT K H b ys) (hl : xs.length + ys.length ≤ sizeLine) (q : ∀ (c : Addr) (G : Hp), Same H G → SqT K G c (xs ++ ys) → Q (.ref c) G) : rCatA K (.ref a) (.ref b) H Q := by
  refine ⟨a, b, xs, ys, rfl, rfl, ha, hb, hl, fun e => ?_, fun _ e => ?_, fun _ _ p hp => q p _ (new_same hp) (SqT.of upd_same)⟩
  · subst e
    exact q b H (fun _ _ e => e) hb
  · subst e
    exact q a H (fun _ _ e => e) (by rw [List.append_nil]; exact ha)
theorem mem_all {l : List Str} {p : Str → Bool} (h : l.all p = true) : ∀ z ∈ l, p z = true := fun z hz => List.all_eq_true.mp h z hz
theorem erase_map (f : Str → V) : ∀ (l : List Str) (k : Nat), (l.map f).eraseIdx k = (l.eraseIdx k).map f
  | [], _ => rfl
  | _ :: _, 0 => rfl
  | x :: r, k + 1 => by
    show f x :: (r.map f).eraseIdx k = f x :: (r.eraseIdx k).map f
    rw [erase_map f r k]
theorem cut_from (l : List V) (k : Nat) (h : k ≤ l.length) : cutV l (some (k : Int)) none = l.drop k := by
  unfold cutV
  rw [HT.sIx_none, HT.sIx_nat, Nat.min_eq_left h, List.take_of_length_le]
  rw [List.length_drop]
  exact Nat.le_refl _
theorem cut_to (l : List V) (k : Nat) (h : k ≤ l.length) : cutV l none (some (k : Int)) = l.take k := by
  unfold cutV
  rw [HT.sIx_none, HT.sIx_nat, Nat.min_eq_left h, List.drop_zero, Nat.sub_zero]
theorem perm_erase : ∀ {ls : List Str} {k : Nat} {y : Str}, ls[k]? = some y → (y :: ls.eraseIdx k).Perm ls
  | x :: r, 0, y, h => by cases h; exact .refl _
  | x :: r, k + 1, y, h => (List.Perm.swap x y _).trans (.cons x (perm_erase (k := k) (ls := r) h))
theorem perm_move {os ls : List Str} {k : Nat} {y : Str} (h : ls[k]? = some y) : (os ++ [y] ++ ls.eraseIdx k).Perm (os ++ ls) := by
  rw [List.append_assoc]
  exact (perm_erase h).append_left os
theorem all_imp {p q : Str → Bool} (h : ∀ z, p z = true → q z = true) : ∀ {w : Wr}, w.all p = true → w.all q = true
  | .nm z, e => h z e
  | .of x b, e => Bool.and_eq_true_iff.mpr ⟨h x (Bool.and_eq_true_iff.mp e).1, all_imp h (Bool.and_eq_true_iff.mp e).2⟩
  | .to a b, e => Bool.and_eq_true_iff.mpr ⟨all_imp h (Bool.and_eq_true_iff.mp e).1, all_imp h (Bool.and_eq_true_iff.mp e).2⟩
theorem paired_get {α β : Type} {R : α → β → Prop} : ∀ {xs : List α} {ys : List β} {i : Nat} {x : α}, Paired R xs ys → xs[i]? = some x → ∃ y, ys[i]? = some y ∧ R x y
  | _, _, 0, _, .cons r _, e => by cases e; exact ⟨_, rfl, r⟩
  | _, _, i + 1, x, .cons _ t, e => paired_get (i := i) t e
theorem paired_snoc {α β : Type} {R : α → β → Prop} {x : α} {y : β} (r : R x y) : ∀ {xs : List α} {ys : List β}, Paired R xs ys → Paired R (xs ++ [x]) (ys ++ [y])
  | _, _, .nil => .cons r .nil
  | _, _, .cons a t => .cons a (paired_snoc r t)
theorem paired_imp {α β : Type} {R S : α → β → Prop} (h : ∀ x y, R x y → S x y) : ∀ {xs : List α} {ys : List β}, Paired R xs ys → Paired S xs ys
  | _, _, .nil => .nil
  | _, _, .cons a t => .cons (h _ _ a) (paired_imp h t)
theorem paired_len {α β : Type} {R : α → β → Prop} : ∀ {xs : List α} {ys : List β}, Paired R xs ys → xs.length = ys.length
  | _, _, .nil => rfl
  | _, _, .cons _ t => congrArg (· + 1) (paired_len t)
theorem paired_and {α β : Type} {R S T : α → β → Prop} (h : ∀ x y, R x y → S x y → T x y) : ∀ {xs : List α} {ys : List β}, Paired R xs ys → Paired S xs ys → Paired T xs ys
  | _, _, .nil, .nil => .nil
  | _, _, .cons a t, .cons b u => .cons (h _ _ a b) (paired_and h t u)
theorem filt_more {p : Str → Bool} {xs : List Str} {i : Nat} {x : Str} (h : xs[i]? = some x) : (xs.take (i + 1)).filter p = (xs.take i).filter p ++ if p x = true then [x] else [] := by
  rw [take_more h, List.filter_append]
  congr 1
  by_cases e : p x = true
  · rw [if_pos e, List.filter_cons_of_pos e]
    rfl
  · rw [if_neg e, List.filter_cons_of_neg e]
    rfl
end TG
/-! own rules: an attribute among the targets of a tuple, a written dict's get, tuple(dict) -/
namespace TG
open PySem PySem.Spec L2
open PyProof.Rows hiding St
/-- .. , o.f, .. = value -/
def gFld (K : PySem.W.Frag) (to : TE) (f : Str) : TG := fun v σ H Q => to σ H fun x H1 => ∃ a C dx fs, x = .ref a ∧ H1 a = some (.ins C dx fs) ∧ Cls K C ∧ NoAttr K C f ∧ fs.length < 1000 ∧ Q σ (upd H1 a (.ins C dx (putF f v fs)))
section
variable {X : Cx} {o : Expr} {to : TE} {f : Str} {pos : Pos}
theorem pg_fld (ho : PE X o to) (ha : ∀ v, assign (.Attribute o f pos) X.env v = (do
      let ov ← holding [v] (eval o X.env)
      standAt pos.atName
      holding [v, ov] (setAttr ov f v)
      release [v, ov] []) := by intro _; rfl) : PG X (.Attribute o f pos) (gFld X.K to f) := by
  refine ⟨fun pins s σ H v u Q I r h => ?_⟩
  rw [ha]
  refine wpAny_bind (wpAny_holding (thn (ho.run pins s σ H _ I h) fun ov s1 ⟨x, H1, I1, r1, a, C, dx, fs, ex, ea, c, n, l, q⟩ => ?_))
  subst ex
  obtain rfl : ov = Value.ref a := r1
  refine wpAny_bind (wpAny_standAt (wpAny_bind (wpAny_holding ?_)))
  exact setattr_ok I1 ea c n l r fun s3 I3 => wpAny_release ⟨σ, _, I3, q⟩
end
/-! ### d.get(k, x) of a dict of the module's top, its keys texts -/
/-- such a dict stands there -/
def KDic (K : PySem.W.Frag) (w : World) (a : Addr) : Prop := ∃ es n, K.lookup a = some ⟨.type "dict", none, .dict es n, #[]⟩ ∧ PySem.W.KeysLit w.params es.toList ∧ (a == sysModules) = false
def tKGet (K : PySem.W.Frag) (w : World) (td ty tx : TE) : TE := fun σ H Q => td σ H fun x H1 => ∃ a, x = .ref a ∧ KDic K w a ∧ ty σ H1 fun y H2 => tx σ H2 fun z H3 => ∃ k, y = .str k ∧
  ((∃ v u, PySem.W.nsIn K a k = some (some u) ∧ RelV v u ∧ Q v H3) ∨ (PySem.W.nsIn K a k = some none ∧ Q z H3))
section
variable {X : Cx} {o e f : Expr} {apos cpos : Pos} {td ty tx : TE}
theorem pe_kget (ho : PE X o td) (he : PE X e ty) (hf : PE X f tx) (m : M2 X o "get" apos e f cpos) : PE X (.Call (.Attribute o "get" apos) [e, f] [] cpos) (tKGet X.K X.w td ty tx) := by
  refine ⟨fun pins s σ H Q I h => ?_⟩
  refine wpAny_Call_method m.base m.few m.line PySem.F.plainAttrs_dict PySem.F.slot_dict_get PySem.F.type_dict_get (thn (ho.run pins s σ H _ I h) fun u s1 ⟨x, H1, I1, rx, a, ex, ⟨es, n, hl, hk, hs⟩, q1⟩ => ?_)
  subst ex
  obtain rfl : u = Value.ref a := rx
  have hm1 := PySem.W.mapOf_K (prog := X.prog) (w := X.w) I1.kIn hl hk
  refine ⟨hm1.typeIs, fun b q => ?_, ?_⟩
  · cases q
    exact ⟨_, I1.kIn _ _ hl, rfl⟩
  rw [m.trees]
  refine Calls.callWith_builtin rfl (Calls.evalArgs_plain (Calls.spliced_cons (thn (he.run pins s1 σ H1 _ I1 q1) fun iv s2 ⟨y, H2, I2, ry, q2⟩ =>
    Calls.spliced_cons (thn (hf.run pins s2 σ H2 _ I2 q2) fun fv s3 ⟨z, H3, I3, rz, k, ey, q3⟩ => Calls.spliced_nil ?_))))
  subst ey
  obtain ⟨t, rfl⟩ := (show ∃ t, iv = Value.str k t from ry)
  have hm := PySem.W.mapOf_K (prog := X.prog) (w := X.w) I3.kIn hl hk
  refine call_meetsIn PySem.F.slot_dict_get hm.typeIs PySem.F.entry_dict_get (PySem.F.args_dict_get_3 _ _ _) (meets_dict_get_default (strKind X.prog X.w) a (strKind_is X.prog X.w k t) hs fv) ⟨_, hm, ?_⟩
  rcases q3 with ⟨v, u, e, r, q⟩ | ⟨e, q⟩
  · rw [PySem.W.find_K hl e]
    exact ⟨v, H3, I3.tok _, r, q⟩
  · rw [PySem.W.find_K hl e]
    exact ⟨z, H3, I3.tok _, rz, q⟩
end
/-! ### tuple(d), the keys of a dict -/
section
variable {prog : Program} {w : World} {A : Around} {E : Value → Shared → Prop} {s : Shared} {T : String} {r d : Addr} {n : Nat} {P : Nat → Value → Prop} {OK : Heap → Prop}
theorem collect_src {Q : List Value → Shared → Prop} (K : PySem.W.KdlSrc prog w T r d n P OK) (hh : A.handled = none) (hok : OK s.heap)
    (hQ : ∀ h' tk (acc : Array Value), (∀ b o, s.heap.get? b = some o → Heap.get? h' b = some o) → ItemsOf P acc n → Q acc.toList { s with heap := h', toks := tk }) (hn : n ≤ sizeLine) :
    wpAny (model prog w) A (collect (.ref r)) Q E s := by
  unfold collect
  refine wpAny_bind (wpAny_runValue (codeAny_builtin PySem.F.entry_proto_collect ?_))
  rw [Around.under_plainId PySem.F.plain_proto_collect _]
  show wpAny _ A.in1 (newList [] >>= fun l => again (.builtin "list.__iadd__" ⟨[l, .ref r], []⟩)) _ _ s
  refine wpAny_bind (wpAny_newObj_type ?_)
  refine wpAny_pure ⟨plainId_quiet PySem.F.plain_list_iadd _, codeAny_builtin PySem.F.entry_list_iadd ?_⟩
  rw [Around.under_plainId PySem.F.plain_list_iadd _]
  show wpAny _ A.in1 (Builtin.List.listExtendWith (.ref s.heap.objs.size) (.ref r) (.ref s.heap.objs.size)) _ _ _
  have hlt := K.there _ hok
  have hS : (s.heap.push { cls := .type "list", data := .seq ([] : List Value).toArray }).get? s.heap.objs.size = some { cls := .type "list", data := .seq #[] 0 } := Heap.get?_push_size _ rfl
  refine wpAny_mono (PySem.W.kdl_extend (R := fun res s' => res = .ok (.ret (.ref s.heap.objs.size)) ∧ ∃ h' tk acc c', s' = { s with heap := h', toks := tk } ∧ (∀ b o, s.heap.get? b = some o → h'.get? b = some o) ∧ h'.get? s.heap.objs.size = some { cls := .type "list", dict := none, data := .seq acc c', slots := #[] } ∧ ItemsOf P acc n)
    (s := { s with heap := s.heap.push { cls := .type "list", data := .seq ([] : List Value).toArray } }) K hh (K.keep _ _ hok fun b _ o e => Heap.get?_push_of_some _ e) s.heap.objs.size (Nat.ne_of_gt hlt.1) (Nat.ne_of_gt hlt.2) _ 0 hS
    (fun h' tk acc' c' hk hS' hacc => ⟨rfl, h', tk, acc', c', rfl, fun b o e => hk b o (Nat.ne_of_lt (Heap.lt_size e)) (Heap.get?_push_of_some _ e), hS', hacc⟩) hn) (fun fin s' h => ?_) (fun e s' h => ?_)
  · have fin' : ∀ s' : Shared, (∃ h' tk acc c', s' = { s with heap := h', toks := tk } ∧ (∀ b o, s.heap.get? b = some o → h'.get? b = some o) ∧ h'.get? s.heap.objs.size = some { cls := .type "list", dict := none, data := .seq acc c', slots := #[] } ∧ ItemsOf P acc n) →
        wpAny (model prog w) A (match Value.ref s.heap.objs.size with
          | Value.ref a => do
            match (← load a).data with
              | Data.seq xs _ => pure xs.toList
              | _ => unsupported "internal:collect"
          | _ => unsupported "internal:collect") Q E s' := by
      rintro s' ⟨h', tk, acc, c', rfl, hk, hg, hi⟩
      show wpAny _ A (load s.heap.objs.size >>= _) _ _ _
      refine wpAny_bind (wpAny_load hg ?_)
      exact wpAny_pure (hQ h' tk acc hk hi)
    cases fin with
    | done f =>
      obtain ⟨e, h⟩ := h
      cases e
      exact fin' _ h
    | again c' => exact ⟨h.1, codeAny_mono h.2 fun r s'' hr => by obtain ⟨rfl, h⟩ := hr; exact fin' _ h⟩
  · exact absurd h.1 (by simp)
theorem code_tuple_src {Q₁ : Value → Shared → Prop} (K : PySem.W.KdlSrc prog w T r d n P OK) (hne : (Value.type T == Value.type "tuple") = false) (hh : A.handled = none) (hok : OK s.heap)
    (h : ∀ h' tk (acc : Array Value), (∀ b o, s.heap.get? b = some o → Heap.get? h' b = some o) → ItemsOf P acc n → Q₁ (.ref h'.objs.size) { s with heap := h'.push { cls := .type "tuple", data := .seq acc }, toks := tk }) (hsz : n ≤ sizeLine) :
    codeAny (model prog w) A (.call (.builtin "tuple.__new__") ⟨[.type "tuple", .ref r], []⟩) (wants Q₁ E) s := by
  refine codeAny_of_tree ?_
  show wpAny _ A.in1 (do checkBuiltinCall "tuple.__new__" ⟨[.type "tuple", .ref r], []⟩; again (.builtin "tuple.__new__" ⟨[.type "tuple", .ref r], []⟩)) _ _ s
  refine wpAny_bind (wpAny_of_eq (PySem.F.newCall_tuple_1 _) (wpAny_pure ⟨plainId_quiet PySem.F.plain_tuple_new _, codeAny_builtin PySem.F.entry_tuple_new ?_⟩))
  rw [Around.under_plainId PySem.F.plain_tuple_new _]
  have hsub := sub_tuple_self
  have hinit := init_tuple_lookup
  have hmh := madeHere_tuple
  have hTI := K.type s hok
  wp_walk using wpAny_typeOf hTI, collect_src (A := A.in1) (hn := hsz) K hh hok
  intro h' tk acc hk hacc
  show wpAny _ _ (Builtin.Tuple.tupleExact acc.toList.toArray >>= fun v => ret v) _ _ _
  unfold Builtin.Tuple.tupleExact
  refine wpAny_bind (wpAny_newObj_type ?_ (by show acc.toList.toArray.size ≤ sizeLine; simp only [Array.toArray_toList]; rw [hacc.1]; exact hsz))
  refine wpAny_pure ?_
  have e : acc.toList.toArray = acc := by simp
  rw [e]
  exact h h' tk acc hk hacc
theorem call_tuple_src {Q : Value → Shared → Prop} (K : PySem.W.KdlSrc prog w T r d n P OK) (hne : (Value.type T == Value.type "tuple") = false) (hh : A.handled = none) (hok : OK s.heap)
    (hQ : ∀ h' tk (acc : Array Value), (∀ b o, s.heap.get? b = some o → Heap.get? h' b = some o) → ItemsOf P acc n → Q (.ref h'.objs.size) { s with heap := h'.push { cls := .type "tuple", data := .seq acc }, toks := tk }) (hsz : n ≤ sizeLine) :
    wpAny (model prog w) A (call (.type "tuple") [.ref r]) Q E s := by
  refine callType_codes (Q₁ := fun obj s₁ => s₁.TypeIs obj "tuple" ∧ Q obj s₁) PySem.F.called_tuple (PySem.F.typeCall_tuple_1 _) PySem.F.entry_object_init
    (code_tuple_src (A := A.in1) K hne hh hok (fun h' tk acc hk hacc => ⟨⟨_, Heap.get?_push_size _ rfl, rfl⟩, hQ h' tk acc hk hacc⟩) hsz) fun obj s₁ h₁ => ?_
  exact ⟨h₁.1, PySem.F.args_object_init_2 obj _, object_init_meets PySem.F.called_tuple.init.lookup PySem.F.called_tuple.made (by decide) prog w A.in1 _ s₁ ⟨h₁.1, rfl, h₁.2⟩⟩
end
/-- the keys of a dict, in a new tuple -/
def rTupD : List V → Hp → VK → Prop := fun xs H Q => ∃ (d : Addr) (kvs : List (Key × V)), xs = [.ref d] ∧ Rd H d (.dK kvs) ∧ ∀ p, H p = none → Q (.ref p) (L2.upd H p (.tup (kvs.map fun kv => kV kv.1)))
section
variable {X : Cx}
theorem rel_kV {P : Program} {w : World} {k : Key} {v : Value} (h : (mixKind P w).is k v = true) : RelV (kV k) v := by
  rcases keyIs_shape (show keyIs k v = true from h) with ⟨i, t, rfl, rfl⟩ | ⟨x, t, rfl, rfl⟩
  · exact ⟨t, rfl⟩
  · exact ⟨t, rfl⟩
theorem vals_of : ∀ {xs : List V} {us : List Value}, xs.length = us.length → (∀ (i : Nat) (x : V) (u : Value), xs[i]? = some x → us[i]? = some u → RelV x u) → Vals xs us
  | [], [], _, _ => .nil
  | x :: xs, u :: us, hl, h => .cons (h 0 x u rfl rfl) (vals_of (Nat.succ.inj hl) fun i y v hy hv => h (i + 1) y v hy hv)
  | [], _ :: _, hl, _ => nomatch hl
  | _ :: _, [], hl, _ => nomatch hl
theorem kv_key : ∀ {kvs : List (Key × V)} {vs : List (Key × Value)} {i : Nat} {k : Key} {x : V}, KV kvs vs → kvs[i]? = some (k, x) → ∃ y, vs[i]? = some (k, y)
  | _, _, _, _, _, .nil, e => nomatch e
  | _, _, 0, _, _, .cons (b := b) h _, e => by cases e; obtain ⟨b1, b2⟩ := b; cases h.1; exact ⟨b2, rfl⟩
  | _, _, i + 1, k, x, .cons _ t, e => kv_key (i := i) (k := k) (x := x) t e
theorem call_tupleD (hc : X.calm = true) : CallR X (.type "tuple") rTupD := by
  intro pins s σ H xs us Q I r h
  obtain ⟨d, kvs, rfl, hd, q⟩ := h
  obtain ⟨u, rfl, rx⟩ := vals1 r
  cases rx
  obtain ⟨z, lo, vs, rel, o, es, ep, d1, d2, d3, d4, d5, d6⟩ := dk_rd I.hok hd
  have hl := rel.length
  refine call_tuple_src (n := vs.length) (PySem.W.kdl_dict (kvs := vs) (ep := ep) lo) (by decide +kernel) (I.ok.hd hc) ⟨o, es, d1, d2, d3, d4, d5, d6⟩ (fun h' tk acc hk hacc => ?_) (by omega)
  have rv : Vals (kvs.map fun kv => kV kv.1) acc.toList := by
    refine vals_of ((List.length_map _).trans (hl.trans hacc.1.symm)) fun i x u hx hu => ?_
    rw [List.getElem?_map] at hx
    obtain ⟨kv, hkv, rfl⟩ := Option.map_eq_some_iff.mp hx
    obtain ⟨y, hy⟩ := kv_key (i := i) (k := kv.1) (x := kv.2) rel hkv
    obtain ⟨k, x2, e1, e2⟩ := hacc.2 i u (by rw [← Array.getElem?_toList]; exact hu)
    rw [hy] at e1
    cases e1
    exact rel_kV e2
  have I1 : Inv X pins σ H { s with heap := h', toks := tk } := I.kept (t' := tk) hk
  have I2 : Inv X pins σ (L2.upd H h'.objs.size (.tup (kvs.map fun kv => kV kv.1))) { s with heap := h'.push { cls := .type "tuple", data := .seq acc }, toks := tk } :=
    I1.laid (t' := tk) (fun b o e => Heap.get?_push_of_some _ e) (Nat.le_refl _) (show ObjOk X.prog X.w _ _ _ (.tup _) from ⟨by rw [List.length_map]; exact z, acc.toList, rv, by rw [Array.toArray_toList]; exact IsTup.new _ _⟩)
  exact ⟨.ref h'.objs.size, _, I2, rfl, q _ (I1.hok.fresh (Nat.le_refl _))⟩
end
end TG
/-! the row of a writing's signs: what begins at each, what is bound around it, what it hangs on -/
namespace TG
open PySem PySem.Spec L2
open PyProof.Rows hiding St
namespace Wr
/-- what begins at each sign -/
def subs : Wr → List Wr
  | nm z => [nm z]
  | of x b => of x b :: b.subs
  | to a b => to a b :: (a.subs ++ b.subs)
/-- where its own parts begin, counted from it -/
def kids : Wr → List Nat
  | nm _ => []
  | of _ _ => [1]
  | to a _ => [1, 1 + a.sg]
def wd : Wr → Str
  | nm _ => "name"
  | of _ _ => "of"
  | to _ _ => "to"
theorem subs_len : ∀ w : Wr, w.subs.length = w.sg
  | nm _ => rfl
  | of _ b => by show b.subs.length + 1 = _; rw [subs_len b]; rfl
  | to a b => by show (a.subs ++ b.subs).length + 1 = _; rw [List.length_append, subs_len a, subs_len b]; rfl
theorem subs_zero : ∀ w : Wr, w.subs[0]? = some w
  | nm _ => rfl
  | of _ _ => rfl
  | to _ _ => rfl
theorem subs_at : ∀ {w s : Wr} {i : Nat}, w.subs[i]? = some s → ∀ j, j < s.sg → w.subs[i + j]? = s.subs[j]?
  | w, s, 0, h, j, _ => by
    rw [subs_zero] at h
    cases h
    rw [Nat.zero_add]
  | nm _, s, i + 1, h, j, _ => nomatch h
  | of x b, s, i + 1, h, j, hj => by
    have h : b.subs[i]? = some s := h
    rw [show i + 1 + j = (i + j) + 1 by omega]
    show b.subs[i + j]? = _
    exact subs_at h j hj
  | to a b, s, i + 1, h, j, hj => by
    have h : (a.subs ++ b.subs)[i]? = some s := h
    rw [show i + 1 + j = (i + j) + 1 by omega]
    show (a.subs ++ b.subs)[i + j]? = _
    by_cases c : i < a.subs.length
    · rw [List.getElem?_append_left c] at h
      have e := subs_at h j hj
      have hs : j < s.subs.length := by rw [subs_len]; exact hj
      have c2 : i + j < a.subs.length := by
        rw [List.getElem?_eq_getElem hs] at e
        exact (List.getElem?_eq_some_iff.mp e).1
      rw [List.getElem?_append_left c2, e]
    · rw [List.getElem?_append_right (by omega)] at h
      rw [List.getElem?_append_right (by omega), show i + j - a.subs.length = (i - a.subs.length) + j by omega]
      exact subs_at h j hj
theorem subs_lt {w s : Wr} {i : Nat} (h : w.subs[i]? = some s) : i < w.sg := by
  rw [← subs_len]
  exact (List.getElem?_eq_some_iff.mp h).1
theorem subs_fit {w s : Wr} {i : Nat} (h : w.subs[i]? = some s) : i + s.sg ≤ w.sg := by
  have p := s.sg_pos
  have e := subs_at h (s.sg - 1) (by omega)
  have hs : s.sg - 1 < s.subs.length := by rw [subs_len]; omega
  have := subs_lt (e.trans (List.getElem?_eq_getElem hs))
  omega
theorem kid_of {w b : Wr} {x : Str} {i : Nat} (h : w.subs[i]? = some (of x b)) : w.subs[i + 1]? = some b := by
  have p := b.sg_pos
  rw [subs_at h 1 (by show 1 < b.sg + 1; omega)]
  show b.subs[0]? = _
  exact subs_zero b
theorem kid_one {w a b : Wr} {i : Nat} (h : w.subs[i]? = some (to a b)) : w.subs[i + 1]? = some a := by
  have p := a.sg_pos
  rw [subs_at h 1 (by show 1 < a.sg + b.sg + 1; omega)]
  show (a.subs ++ b.subs)[0]? = _
  rw [List.getElem?_append_left (by rw [subs_len]; omega)]
  exact subs_zero a
theorem kid_two {w a b : Wr} {i : Nat} (h : w.subs[i]? = some (to a b)) : w.subs[i + 1 + a.sg]? = some b := by
  have p := b.sg_pos
  rw [show i + 1 + a.sg = i + (a.sg + 1) by omega, subs_at h (a.sg + 1) (by show a.sg + 1 < a.sg + b.sg + 1; omega)]
  show (a.subs ++ b.subs)[a.sg]? = _
  rw [List.getElem?_append_right (by rw [subs_len]; omega), subs_len, Nat.sub_self]
  exact subs_zero b
/-- each sign but the first begins a part of one ahead -/
theorem has_par : ∀ {w : Wr} {i : Nat}, 0 < i → i < w.sg → ∃ j s k, j < i ∧ w.subs[j]? = some s ∧ k ∈ s.kids ∧ i = j + k
  | nm _, i, h0, h1 => by
    have : i < 1 := h1
    omega
  | of x b, i, h0, h1 => by
    have h1 : i < b.sg + 1 := h1
    by_cases c : i = 1
    · exact ⟨0, of x b, 1, h0, rfl, List.mem_singleton_self 1, by omega⟩
    · obtain ⟨j, s, k, hj, hs, hk, e⟩ := has_par (w := b) (i := i - 1) (by omega) (by omega)
      exact ⟨j + 1, s, k, by omega, hs, hk, by omega⟩
  | to a b, i, h0, h1 => by
    have h1 : i < a.sg + b.sg + 1 := h1
    by_cases c : i = 1
    · exact ⟨0, to a b, 1, h0, rfl, List.mem_cons_self, by omega⟩
    by_cases c2 : i = 1 + a.sg
    · exact ⟨0, to a b, 1 + a.sg, h0, rfl, List.mem_cons_of_mem _ (List.mem_singleton_self _), by omega⟩
    by_cases c3 : i < 1 + a.sg
    · obtain ⟨j, s, k, hj, hs, hk, e⟩ := has_par (w := a) (i := i - 1) (by omega) (by omega)
      refine ⟨j + 1, s, k, by omega, ?_, hk, by omega⟩
      show (a.subs ++ b.subs)[j]? = _
      rw [List.getElem?_append_left (by rw [subs_len]; exact subs_lt hs)]
      exact hs
    · obtain ⟨j, s, k, hj, hs, hk, e⟩ := has_par (w := b) (i := i - 1 - a.sg) (by omega) (by omega)
      refine ⟨j + a.sg + 1, s, k, by omega, ?_, hk, by omega⟩
      show (a.subs ++ b.subs)[j + a.sg]? = _
      rw [List.getElem?_append_right (by rw [subs_len]; omega), subs_len, Nat.add_sub_cancel]
      exact hs
/-- the "of"s around each sign, the innermost first: their names and where they stand -/
def envs : Wr → Nat → List (Str × Nat) → List (List (Str × Nat))
  | nm _, _, e => [e]
  | of x b, o, e => e :: b.envs (o + 1) ((x, o) :: e)
  | to a b, o, e => e :: (a.envs (o + 1) e ++ b.envs (o + 1 + a.sg) e)
theorem envs_len : ∀ (w : Wr) (o : Nat) (e : List (Str × Nat)), (w.envs o e).length = w.sg
  | nm _, _, _ => rfl
  | of x b, o, e => by show (b.envs _ _).length + 1 = _; rw [envs_len b]; rfl
  | to a b, o, e => by show (a.envs _ _ ++ b.envs _ _).length + 1 = _; rw [List.length_append, envs_len a, envs_len b]; rfl
theorem envs_zero : ∀ (w : Wr) (o : Nat) (e : List (Str × Nat)), (w.envs o e)[0]? = some e
  | nm _, _, _ => rfl
  | of _ _, _, _ => rfl
  | to _ _, _, _ => rfl
theorem envs_at : ∀ {w s : Wr} {i o : Nat} {e0 : List (Str × Nat)}, w.subs[i]? = some s → ∃ e, ∀ j, j < s.sg → (w.envs o e0)[i + j]? = (s.envs (o + i) e)[j]?
  | w, s, 0, o, e0, h => by
    rw [subs_zero] at h
    cases h
    exact ⟨e0, fun j _ => by rw [Nat.zero_add, Nat.add_zero]⟩
  | nm _, s, i + 1, o, e0, h => nomatch h
  | of x b, s, i + 1, o, e0, h => by
    obtain ⟨e, he⟩ := envs_at (w := b) (o := o + 1) (e0 := (x, o) :: e0) (show b.subs[i]? = some s from h)
    refine ⟨e, fun j hj => ?_⟩
    rw [show i + 1 + j = (i + j) + 1 by omega, show o + (i + 1) = o + 1 + i by omega]
    exact he j hj
  | to a b, s, i + 1, o, e0, h => by
    have h : (a.subs ++ b.subs)[i]? = some s := h
    by_cases c : i < a.subs.length
    · rw [List.getElem?_append_left c] at h
      obtain ⟨e, he⟩ := envs_at (w := a) (o := o + 1) (e0 := e0) h
      refine ⟨e, fun j hj => ?_⟩
      rw [show i + 1 + j = (i + j) + 1 by omega, show o + (i + 1) = o + 1 + i by omega]
      show (a.envs (o + 1) e0 ++ _)[i + j]? = _
      have f := subs_fit h
      rw [List.getElem?_append_left (by rw [envs_len]; omega)]
      exact he j hj
    · rw [List.getElem?_append_right (by omega), subs_len] at h
      rw [subs_len] at c
      obtain ⟨e, he⟩ := envs_at (w := b) (o := o + 1 + a.sg) (e0 := e0) h
      refine ⟨e, fun j hj => ?_⟩
      rw [show i + 1 + j = (i + j) + 1 by omega, show o + (i + 1) = o + 1 + a.sg + (i - a.sg) by omega]
      show (a.envs (o + 1) e0 ++ b.envs (o + 1 + a.sg) e0)[i + j]? = _
      rw [List.getElem?_append_right (by rw [envs_len]; omega), envs_len, show i + j - a.sg = (i - a.sg) + j by omega]
      exact he j hj
/-- the "of"s around the sign at i -/
def env (w : Wr) (i : Nat) : List (Str × Nat) := ((w.envs 0 [])[i]?).getD []
theorem env_eq {w : Wr} {i : Nat} (h : i < w.sg) : (w.envs 0 [])[i]? = some (w.env i) := by
  unfold env
  rw [List.getElem?_eq_getElem (by rw [envs_len]; exact h)]
  rfl
theorem env_zero (w : Wr) : w.env 0 = [] := by
  unfold env
  rw [envs_zero]
  rfl
theorem env_of {w b : Wr} {x : Str} {i : Nat} (h : w.subs[i]? = some (of x b)) : w.env (i + 1) = (x, i) :: w.env i := by
  obtain ⟨e, he⟩ := envs_at (o := 0) (e0 := []) h
  have h0 := he 0 (Nat.succ_pos _)
  have h1 := he 1 (by have := b.sg_pos; show 1 < b.sg + 1; omega)
  rw [Nat.add_zero, Nat.zero_add] at h0
  rw [Nat.zero_add] at h1
  unfold env
  rw [h0, h1]
  show (((b.envs (i + 1) ((x, i) :: e))[0]?).getD []) = _
  rw [envs_zero, envs_zero]
  rfl
theorem env_one {w a b : Wr} {i : Nat} (h : w.subs[i]? = some (to a b)) : w.env (i + 1) = w.env i := by
  obtain ⟨e, he⟩ := envs_at (o := 0) (e0 := []) h
  have h0 := he 0 (Nat.succ_pos _)
  have h1 := he 1 (by have := a.sg_pos; show 1 < a.sg + b.sg + 1; omega)
  rw [Nat.add_zero, Nat.zero_add] at h0
  rw [Nat.zero_add] at h1
  unfold env
  rw [h0, h1]
  show (((a.envs (i + 1) e ++ _)[0]?).getD []) = _
  rw [List.getElem?_append_left (by rw [envs_len]; exact a.sg_pos), envs_zero, envs_zero]
theorem env_two {w a b : Wr} {i : Nat} (h : w.subs[i]? = some (to a b)) : w.env (i + 1 + a.sg) = w.env i := by
  obtain ⟨e, he⟩ := envs_at (o := 0) (e0 := []) h
  have h0 := he 0 (Nat.succ_pos _)
  have h1 := he (a.sg + 1) (by have := b.sg_pos; show a.sg + 1 < a.sg + b.sg + 1; omega)
  rw [Nat.add_zero, Nat.zero_add] at h0
  rw [Nat.zero_add] at h1
  unfold env
  rw [show i + 1 + a.sg = i + (a.sg + 1) by omega, h0, h1]
  show (((a.envs (i + 1) e ++ b.envs (i + 1 + a.sg) e)[a.sg]?).getD []) = _
  rw [List.getElem?_append_right (by rw [envs_len]; exact Nat.le_refl _), envs_len, Nat.sub_self, envs_zero, envs_zero]
/-- each of those around is an "of" of this name, and around it are those behind it -/
def Chain (w : Wr) : List (Str × Nat) → Prop
  | [] => True
  | (x, j) :: e => (∃ b, w.subs[j]? = some (of x b)) ∧ w.env j = e ∧ Chain w e
theorem chain_env (w : Wr) : ∀ {i : Nat}, i < w.sg → Chain w (w.env i) := by
  intro i
  induction i using Nat.strongRecOn with
  | _ i ih =>
    intro hi
    by_cases h0 : i = 0
    · subst h0
      rw [env_zero]
      exact trivial
    obtain ⟨j, s, k, hj, hs, hk, rfl⟩ := has_par (w := w) (i := i) (by omega) hi
    have c := ih j hj (subs_lt hs)
    cases s with
    | nm z => exact absurd hk List.not_mem_nil
    | of x b =>
      rw [List.mem_singleton.mp hk, env_of hs]
      exact ⟨⟨b, hs⟩, rfl, c⟩
    | to a b =>
      rcases List.mem_cons.mp hk with rfl | hk
      · rw [env_one hs]; exact c
      · rw [List.mem_singleton.mp hk, ← Nat.add_assoc, env_two hs]; exact c
theorem env_lt (w : Wr) : ∀ {i : Nat}, i < w.sg → ∀ p ∈ w.env i, p.2 < i := by
  intro i
  induction i using Nat.strongRecOn with
  | _ i ih =>
    intro hi p hp
    by_cases h0 : i = 0
    · subst h0
      rw [env_zero] at hp
      exact absurd hp List.not_mem_nil
    obtain ⟨j, s, k, hj, hs, hk, rfl⟩ := has_par (w := w) (i := i) (by omega) hi
    have c := ih j hj (subs_lt hs)
    cases s with
    | nm z => exact absurd hk List.not_mem_nil
    | of x b =>
      rw [List.mem_singleton.mp hk, env_of hs] at hp
      rw [List.mem_singleton.mp hk]
      rcases List.mem_cons.mp hp with rfl | hp
      · exact Nat.lt_succ_self _
      · exact Nat.lt_succ_of_lt (c p hp)
    | to a b =>
      rcases List.mem_cons.mp hk with rfl | hk
      · rw [env_one hs] at hp; exact Nat.lt_succ_of_lt (c p hp)
      · rw [List.mem_singleton.mp hk, ← Nat.add_assoc, env_two hs] at hp; exact Nat.lt_of_lt_of_le (c p hp) (Nat.le_add_right _ _)
/-- which "of" binds this name -/
def find (z : Str) : List (Str × Nat) → Option Nat
  | [] => none
  | (x, j) :: e => if x = z then some j else find z e
/-- the "of" that binds what stands at i -/
def bnd (w : Wr) (i : Nat) : Option Nat := match w.subs[i]? with
  | some (nm z) => find z (w.env i)
  | _ => none
theorem find_none {z : Str} : ∀ {e : List (Str × Nat)}, find z e = none ↔ z ∉ e.map (·.1)
  | [] => by simp [find]
  | (x, j) :: e => by
    show (if x = z then some j else find z e) = none ↔ _
    by_cases c : x = z
    · rw [if_pos c]
      simp [c]
    · rw [if_neg c, find_none]
      simp [Ne.symm c, eq_comm]
/-- how far out it is -/
theorem find_depth {w : Wr} {z : Str} : ∀ {e : List (Str × Nat)} {j : Nat}, Chain w e → find z e = some j → (w.env j).length + (e.map (·.1)).idxOf z + 1 = e.length ∧ j < w.sg
  | [], j, _, h => nomatch h
  | (x, k) :: e, j, c, h => by
    have h : (if x = z then some k else find z e) = some j := h
    obtain ⟨⟨b, hb⟩, he, c'⟩ := c
    by_cases q : x = z
    · rw [if_pos q] at h
      cases h
      subst q
      rw [he]
      refine ⟨?_, subs_lt hb⟩
      show e.length + (x :: e.map (·.1)).idxOf x + 1 = e.length + 1
      rw [List.idxOf_cons_self]
    · rw [if_neg q] at h
      obtain ⟨d, hj⟩ := find_depth c' h
      refine ⟨?_, hj⟩
      show (w.env j).length + (x :: e.map (·.1)).idxOf z + 1 = e.length + 1
      rw [List.idxOf_cons, show (x == z) = false by simpa using q, cond_false]
      omega
/-- all its free names where they stand, these being bound around -/
def frL : Wr → List Str → List Str
  | nm z, ar => if z ∈ ar then [] else [z]
  | of x b, ar => b.frL (x :: ar)
  | to a b, ar => a.frL ar ++ b.frL ar
def ins (f : List Str) (z : Str) : List Str := if z ∈ f then f else f ++ [z]
theorem frL_mem : ∀ (w : Wr) {ar br : List Str}, (∀ z, z ∈ ar ↔ z ∈ br) → w.frL ar = w.frL br
  | nm z, ar, br, h => by
    show (if z ∈ ar then [] else [z]) = if z ∈ br then [] else [z]
    by_cases c : z ∈ ar
    · rw [if_pos c, if_pos ((h z).mp c)]
    · rw [if_neg c, if_neg fun k => c ((h z).mpr k)]
  | of x b, ar, br, h => frL_mem b fun z => by simp only [List.mem_cons, h z]
  | to a b, ar, br, h => by
    show a.frL ar ++ b.frL ar = a.frL br ++ b.frL br
    rw [frL_mem a h, frL_mem b h]
theorem fold_frL : ∀ (w : Wr) (ar f : List Str), (w.frL ar).foldl ins f = w.go ar f
  | nm z, ar, f => by
    show (if z ∈ ar then [] else [z]).foldl ins f = if z ∈ ar ++ f then f else f ++ [z]
    by_cases c : z ∈ ar
    · rw [if_pos c, if_pos (List.mem_append_left _ c)]
      rfl
    · rw [if_neg c]
      show ins f z = _
      unfold ins
      by_cases d : z ∈ f
      · rw [if_pos d, if_pos (List.mem_append_right _ d)]
      · rw [if_neg d, if_neg fun h => (List.mem_append.mp h).elim c d]
  | of x b, ar, f => by
    show (b.frL (x :: ar)).foldl ins f = b.go (ar ++ [x]) f
    rw [← fold_frL b, frL_mem b (br := ar ++ [x]) fun z => by simp [or_comm]]
  | to a b, ar, f => by
    show (a.frL ar ++ b.frL ar).foldl ins f = b.go ar (a.go ar f)
    rw [List.foldl_append, fold_frL a, fold_frL b]
/-- a sign with what is around: the name, if it stands there free -/
def freeAt : Wr × List (Str × Nat) → Option Str
  | (nm z, e) => if find z e = none then some z else none
  | _ => none
theorem free_zip : ∀ (w : Wr) (o : Nat) (e : List (Str × Nat)), (w.subs.zip (w.envs o e)).filterMap freeAt = w.frL (e.map (·.1))
  | nm z, o, e => by
    show ([(nm z, e)] : List _).filterMap freeAt = if z ∈ e.map (·.1) then [] else [z]
    by_cases c : z ∈ e.map (·.1)
    · rw [if_pos c]
      have : find z e ≠ none := fun h => (find_none.mp h) c
      simp [freeAt, this]
    · rw [if_neg c]
      have : find z e = none := find_none.mpr c
      simp [freeAt, this]
  | of x b, o, e => by
    show ((of x b, e) :: b.subs.zip (b.envs (o + 1) ((x, o) :: e))).filterMap freeAt = b.frL (x :: e.map (·.1))
    rw [List.filterMap_cons_none rfl, free_zip b]
    rfl
  | to a b, o, e => by
    show ((to a b, e) :: (a.subs ++ b.subs).zip (a.envs (o + 1) e ++ b.envs (o + 1 + a.sg) e)).filterMap freeAt = a.frL (e.map (·.1)) ++ b.frL (e.map (·.1))
    rw [List.filterMap_cons_none rfl, List.zip_append (by rw [subs_len, envs_len]), List.filterMap_append, free_zip a, free_zip b]
/-- the places of the free names -/
def frIx (w : Wr) : List Nat := (List.range w.sg).filter fun i => match w.subs[i]? with
  | some (nm z) => decide (find z (w.env i) = none)
  | _ => false
def nmAt (w : Wr) (i : Nat) : Str := match w.subs[i]? with
  | some (nm z) => z
  | some (of x _) => x
  | _ => ""
theorem frIx_names (w : Wr) : (w.frIx).map w.nmAt = w.frL [] := by
  have e := free_zip w 0 []
  rw [← show w.frL ([] : List (Str × Nat)).unzip.1 = w.frL [] from rfl]
  show _ = w.frL (([] : List (Str × Nat)).map (·.1))
  rw [← e]
  have key : ∀ k, k ≤ w.sg → (((List.range k).filter fun i => match w.subs[i]? with
      | some (nm z) => decide (find z (w.env i) = none)
      | _ => false).map w.nmAt) = ((w.subs.zip (w.envs 0 [])).take k).filterMap freeAt := by
    intro k
    induction k with
    | zero => intro _; rfl
    | succ k ih =>
      intro hk
      rw [List.range_succ, List.filter_append, List.map_append, ih (by omega), List.take_add_one, List.filterMap_append]
      congr 1
      have hs : w.subs[k]? = some (w.subs[k]'(by rw [subs_len]; omega)) := List.getElem?_eq_getElem _
      have he := env_eq (w := w) (i := k) (by omega)
      have hz : (w.subs.zip (w.envs 0 []))[k]? = some (w.subs[k]'(by rw [subs_len]; omega), w.env k) := by
        rw [List.getElem?_zip_eq_some]
        exact ⟨hs, he⟩
      rw [hz]
      generalize w.subs[k]'(by rw [subs_len]; omega) = s at hs
      show (([k] : List Nat).filter _).map _ = ([(s, w.env k)] : List _).filterMap freeAt
      cases s with
      | nm z =>
        by_cases c : find z (w.env k) = none
        · rw [List.filter_cons_of_pos (by simp [hs, c])]
          simp [nmAt, hs, freeAt, c]
        · rw [List.filter_cons_of_neg (by simp [hs, c])]
          simp [freeAt, c]
      | of x b =>
        rw [List.filter_cons_of_neg (by simp [hs])]
        rfl
      | to a b =>
        rw [List.filter_cons_of_neg (by simp [hs])]
        rfl
  have h := key w.sg (Nat.le_refl _)
  rw [List.take_of_length_le (by rw [List.length_zip, subs_len, envs_len]; omega)] at h
  exact h
/-- the names of the free ones, each once, as they are met -/
theorem frIx_fold (w : Wr) : (w.frIx.map w.nmAt).foldl ins [] = w.fr := by
  rw [frIx_names, fold_frL, go_nil]
end Wr
end TG
/-! codes of counted writings; what is put in, sign by sign -/
namespace TG
open PySem PySem.Spec L2
open PyProof.Rows hiding St
/-- a code: a text, or how far out the "of" is -/
abbrev Cd := Sum Str Nat
theorem not_of : okN ("of" : Str) = false := by decide +kernel
theorem not_to : okN ("to" : Str) = false := by decide +kernel
namespace Bt
def cd : Bt → List Cd
  | bd n => [.inr n]
  | fr z => [.inl z]
  | of b => .inl "of" :: b.cd
  | to a b => .inl "to" :: (a.cd ++ b.cd)
theorem cd_cut : ∀ {b c : Bt} {r t : List Cd}, b.all okN = true → c.all okN = true → b.cd ++ r = c.cd ++ t → b = c ∧ r = t
  | bd n, bd m, r, t, _, _, h => by cases h; exact ⟨rfl, rfl⟩
  | fr z, fr y, r, t, _, _, h => by cases h; exact ⟨rfl, rfl⟩
  | of b, of c, r, t, hb, hc, h => by
    injection h with _ h
    obtain ⟨e1, e2⟩ := cd_cut (b := b) (c := c) hb hc h
    exact ⟨congrArg of e1, e2⟩
  | to a b, to c d, r, t, hb, hc, h => by
    injection h with _ h
    have h : (a.cd ++ b.cd) ++ r = (c.cd ++ d.cd) ++ t := h
    rw [List.append_assoc, List.append_assoc] at h
    obtain ⟨e1, h⟩ := cd_cut (b := a) (c := c) (Bool.and_eq_true_iff.mp hb).1 (Bool.and_eq_true_iff.mp hc).1 h
    obtain ⟨e2, h⟩ := cd_cut (b := b) (c := d) (Bool.and_eq_true_iff.mp hb).2 (Bool.and_eq_true_iff.mp hc).2 h
    exact ⟨by rw [e1, e2], h⟩
  | bd n, fr z, _, _, _, _, h => by cases h
  | bd n, of _, _, _, _, _, h => by cases h
  | bd n, to _ _, _, _, _, _, h => by cases h
  | fr z, bd _, _, _, _, _, h => by cases h
  | of _, bd _, _, _, _, _, h => by cases h
  | to _ _, bd _, _, _, _, _, h => by cases h
  | fr z, of _, _, _, hb, _, h => by
    injection h with h _
    injection h with h
    subst h
    exact absurd (not_of.symm.trans hb) Bool.false_ne_true
  | fr z, to _ _, _, _, hb, _, h => by
    injection h with h _
    injection h with h
    subst h
    exact absurd (not_to.symm.trans hb) Bool.false_ne_true
  | of _, fr z, _, _, _, hb, h => by
    injection h with h _
    injection h with h
    subst h
    exact absurd (not_of.symm.trans hb) Bool.false_ne_true
  | to _ _, fr z, _, _, _, hb, h => by
    injection h with h _
    injection h with h
    subst h
    exact absurd (not_to.symm.trans hb) Bool.false_ne_true
  | of _, to _ _, _, _, _, _, h => by
    injection h with h _
    injection h with h
    exact absurd h (by decide +kernel)
  | to _ _, of _, _, _, _, _, h => by
    injection h with h _
    injection h with h
    exact absurd h (by decide +kernel)
theorem cd_inj {b c : Bt} (hb : b.all okN = true) (hc : c.all okN = true) (h : b.cd = c.cd) : b = c :=
  (cd_cut (r := []) (t := []) hb hc (by rw [List.append_nil, List.append_nil]; exact h)).1
end Bt
namespace Wr
/-- a sign's code, by what is around it -/
def codeAt : Wr × List (Str × Nat) → Cd
  | (nm z, e) => if z ∈ e.map (·.1) then .inr ((e.map (·.1)).idxOf z) else .inl z
  | (of _ _, _) => .inl "of"
  | (to _ _, _) => .inl "to"
theorem code_zip : ∀ (w : Wr) (o : Nat) (e : List (Str × Nat)), (w.subs.zip (w.envs o e)).map codeAt = (w.cnt (e.map (·.1))).cd
  | nm z, o, e => by
    show [codeAt (nm z, e)] = (if z ∈ e.map (·.1) then Bt.bd ((e.map (·.1)).idxOf z) else .fr z).cd
    unfold codeAt
    by_cases c : z ∈ e.map (·.1)
    · simp only [if_pos c]; rfl
    · simp only [if_neg c]; rfl
  | of x b, o, e => by
    show Sum.inl ("of" : Str) :: (b.subs.zip (b.envs (o + 1) ((x, o) :: e))).map codeAt = Sum.inl ("of" : Str) :: (b.cnt (x :: e.map (·.1))).cd
    rw [code_zip b]
    rfl
  | to a b, o, e => by
    show Sum.inl ("to" : Str) :: ((a.subs ++ b.subs).zip (a.envs (o + 1) e ++ b.envs (o + 1 + a.sg) e)).map codeAt = Sum.inl ("to" : Str) :: ((a.cnt (e.map (·.1))).cd ++ (b.cnt (e.map (·.1))).cd)
    rw [List.zip_append (by rw [subs_len, envs_len]), List.map_append, code_zip a, code_zip b]
theorem code_list (w : Wr) (xs : List Cd) (hl : xs.length = w.sg) (h : ∀ i s, w.subs[i]? = some s → xs[i]? = some (codeAt (s, w.env i))) : xs = (w.cnt []).cd := by
  have e := code_zip w 0 []
  show xs = (w.cnt (([] : List (Str × Nat)).map (·.1))).cd
  rw [← e]
  refine List.ext_getElem? fun i => ?_
  rw [List.getElem?_map]
  by_cases c : i < w.sg
  · have hs : w.subs[i]? = some (w.subs[i]'(by rw [subs_len]; exact c)) := List.getElem?_eq_getElem _
    rw [h i _ hs]
    have hz : (w.subs.zip (w.envs 0 []))[i]? = some (w.subs[i]'(by rw [subs_len]; exact c), w.env i) := by
      rw [List.getElem?_zip_eq_some]
      exact ⟨hs, env_eq c⟩
    rw [hz]
    rfl
  · rw [List.getElem?_eq_none (by omega), List.getElem?_eq_none (by rw [List.length_zip, subs_len, envs_len]; omega)]
    rfl
/-- the depths of a row, in its order -/
def deps : Wr → Nat → List Nat
  | nm _, d => [d]
  | of _ b, d => d :: b.deps (d + 1)
  | to a b, d => d :: (a.deps d ++ b.deps d)
theorem deps_envs : ∀ (w : Wr) (o : Nat) (e : List (Str × Nat)), (w.envs o e).map List.length = w.deps e.length
  | nm _, _, _ => rfl
  | of x b, o, e => by
    show e.length :: (b.envs (o + 1) ((x, o) :: e)).map List.length = e.length :: b.deps (e.length + 1)
    rw [deps_envs b]
    rfl
  | to a b, o, e => by
    show e.length :: (a.envs (o + 1) e ++ b.envs (o + 1 + a.sg) e).map List.length = e.length :: (a.deps e.length ++ b.deps e.length)
    rw [List.map_append, deps_envs a, deps_envs b]
theorem deps_at {w : Wr} {i : Nat} (h : i < w.sg) : (w.deps 0)[i]? = some (w.env i).length := by
  have e := deps_envs w 0 []
  rw [show w.deps 0 = w.deps ([] : List (Str × Nat)).length from rfl, ← e, List.getElem?_map, env_eq h]
  rfl
theorem deps_len (w : Wr) (d : Nat) : (w.deps d).length = w.sg := by
  induction w generalizing d with
  | nm _ => rfl
  | of _ b ih => show (b.deps _).length + 1 = _; rw [ih]; rfl
  | to a b i1 i2 => show (a.deps _ ++ b.deps _).length + 1 = _; rw [List.length_append, i1, i2]; rfl
/-! ### other names for some of the "of"s, and a writing in the place of a free name -/
def nu (ρ : Nat → Option Str) (j : Nat) (x : Str) : Str := (ρ j).getD x
def ren (ρ : Nat → Option Str) (nam : Str) (t : Wr) : Wr → Nat → List (Str × Nat) → Wr
  | nm z, _, e => match find z e with
    | none => if z = nam then t else nm z
    | some j => nm (nu ρ j z)
  | of x b, o, e => of (nu ρ o x) (ren ρ nam t b (o + 1) ((x, o) :: e))
  | to a b, o, e => to (ren ρ nam t a (o + 1) e) (ren ρ nam t b (o + 1 + a.sg) e)
/-- all names that stand in it, of "of"s too -/
def nms : Wr → List Str
  | nm z => [z]
  | of x b => x :: b.nms
  | to a b => a.nms ++ b.nms
theorem fr_nms : ∀ {w : Wr} {z : Str}, z ∈ w.fr → z ∈ w.nms
  | nm z, y, h => h
  | of x b, y, h => List.mem_cons_of_mem _ (fr_nms (List.mem_filter.mp h).1)
  | to a b, y, h => by
    rcases List.mem_append.mp h with h | h
    · exact List.mem_append_left _ (fr_nms h)
    · exact List.mem_append_right _ (fr_nms (List.mem_filter.mp h).1)
theorem cnt_closed : ∀ (w : Wr) (ar br : List Str), (∀ z ∈ w.fr, z ∉ br) → w.cnt (ar ++ br) = w.cnt ar
  | nm z, ar, br, h => by
    have hz := h z (List.mem_singleton_self z)
    show (if z ∈ ar ++ br then Bt.bd ((ar ++ br).idxOf z) else .fr z) = if z ∈ ar then Bt.bd (ar.idxOf z) else .fr z
    by_cases c : z ∈ ar
    · rw [if_pos c, if_pos (List.mem_append_left _ c), List.idxOf_append, if_pos c]
    · rw [if_neg c, if_neg fun k => (List.mem_append.mp k).elim c hz]
  | of x b, ar, br, h => by
    show Bt.of (b.cnt (x :: (ar ++ br))) = Bt.of (b.cnt (x :: ar))
    congr 1
    by_cases c : x ∈ br
    · -- a name of br that is x: x stands ahead of it anyway
      have key : ∀ (w : Wr) (pre ar br : List Str), (∀ z ∈ w.fr, z ∈ br → z ∈ pre) → w.cnt (pre ++ ar ++ br) = w.cnt (pre ++ ar) := by
        intro w
        induction w with
        | nm z =>
          intro pre ar br h
          have hz := h z (List.mem_singleton_self z)
          show (if z ∈ pre ++ ar ++ br then Bt.bd ((pre ++ ar ++ br).idxOf z) else .fr z) = if z ∈ pre ++ ar then Bt.bd ((pre ++ ar).idxOf z) else .fr z
          by_cases c : z ∈ pre ++ ar
          · rw [if_pos c, if_pos (List.mem_append_left _ c), List.idxOf_append, if_pos c]
          · rw [if_neg c, if_neg fun k => (List.mem_append.mp k).elim c fun q => c (List.mem_append_left _ (hz q))]
        | of y d ih =>
          intro pre ar br h
          show Bt.of (d.cnt (y :: (pre ++ ar ++ br))) = Bt.of (d.cnt (y :: (pre ++ ar)))
          congr 1
          refine ih (y :: pre) ar br fun z hz hb => ?_
          by_cases q : z = y
          · exact List.mem_cons.mpr (.inl q)
          · exact List.mem_cons_of_mem _ (h z (List.mem_filter.mpr ⟨hz, decide_eq_true q⟩) hb)
        | to a b i1 i2 =>
          intro pre ar br h
          show Bt.to _ _ = Bt.to _ _
          congr 1
          · exact i1 pre ar br fun z hz hb => h z (List.mem_append_left _ hz) hb
          · refine i2 pre ar br fun z hz hb => ?_
            by_cases q : z ∈ a.fr
            · exact h z (List.mem_append_left _ q) hb
            · exact h z (List.mem_append_right _ (List.mem_filter.mpr ⟨hz, decide_eq_true q⟩)) hb
      refine key b [x] ar br fun z hz hb => ?_
      by_cases q : z = x
      · exact List.mem_singleton.mpr q
      · exact absurd hb (h z (List.mem_filter.mpr ⟨hz, decide_eq_true q⟩))
    · refine cnt_closed b (x :: ar) br fun z hz hb => ?_
      by_cases q : z = x
      · exact c (q ▸ hb)
      · exact h z (List.mem_filter.mpr ⟨hz, decide_eq_true q⟩) hb
  | to a b, ar, br, h => by
    show Bt.to _ _ = Bt.to _ _
    rw [cnt_closed a ar br fun z hz => h z (List.mem_append_left _ hz), cnt_closed b ar br fun z hz => ?_]
    by_cases q : z ∈ a.fr
    · exact h z (List.mem_append_left _ q)
    · exact h z (List.mem_append_right _ (List.mem_filter.mpr ⟨hz, decide_eq_true q⟩))
/-- the names of those around, as they are told anew -/
def nue (ρ : Nat → Option Str) (e : List (Str × Nat)) : List Str := e.map fun p => nu ρ p.2 p.1
/-- ρ gives new names: unlike ones, that stand nowhere in these -/
structure New (ρ : Nat → Option Str) (ns : List Str) : Prop where
  out : ∀ j y, ρ j = some y → y ∉ ns
  inj : ∀ j k y, ρ j = some y → ρ k = some y → j = k
theorem find_mem {z : Str} : ∀ {e : List (Str × Nat)} {j : Nat}, find z e = some j → j ∈ e.map (·.2)
  | [], _, h => nomatch h
  | (x, k) :: e, j, h => by
    have h : (if x = z then some k else find z e) = some j := h
    by_cases c : x = z
    · rw [if_pos c] at h; cases h; exact List.mem_cons_self
    · rw [if_neg c] at h; exact List.mem_cons_of_mem _ (find_mem h)
theorem nue_find {ρ : Nat → Option Str} {ns : List Str} (N : New ρ ns) {z : Str} (hz : z ∈ ns) : ∀ {e : List (Str × Nat)}, (e.map (·.2)).Nodup → (∀ p ∈ e, p.1 ∈ ns) →
    (find z e = none → z ∉ nue ρ e) ∧ ∀ j, find z e = some j → nu ρ j z ∈ nue ρ e ∧ (nue ρ e).idxOf (nu ρ j z) = (e.map (·.1)).idxOf z
  | [], _, _ => ⟨fun _ => List.not_mem_nil, fun j h => nomatch h⟩
  | (x, k) :: e, hd, hn => by
    have hd2 := List.nodup_cons.mp (show (k :: e.map (·.2)).Nodup from hd)
    obtain ⟨i1, i2⟩ := nue_find N hz hd2.2 fun p hp => hn p (List.mem_cons_of_mem _ hp)
    have hx : x ∈ ns := hn _ List.mem_cons_self
    by_cases c : x = z
    · subst c
      have f : find x ((x, k) :: e) = some k := if_pos rfl
      refine ⟨fun h => absurd (f.symm.trans h) (fun q => nomatch q), fun j h => ?_⟩
      rw [f] at h
      cases h
      refine ⟨List.mem_cons_self, ?_⟩
      show (nu ρ k x :: nue ρ e).idxOf (nu ρ k x) = (x :: e.map (·.1)).idxOf x
      rw [List.idxOf_cons_self, List.idxOf_cons_self]
    · have f : find z ((x, k) :: e) = find z e := if_neg c
      have nz : nu ρ k x ≠ z := by
        unfold nu
        cases q : ρ k with
        | none => exact c
        | some y => exact fun h => N.out k y q ((show y = z from h) ▸ hz)
      refine ⟨fun h => ?_, fun j h => ?_⟩
      · rw [f] at h
        intro hm
        rcases List.mem_cons.mp hm with hm | hm
        · exact nz hm.symm
        · exact i1 h hm
      · rw [f] at h
        obtain ⟨m, d⟩ := i2 j h
        have ne : nu ρ k x ≠ nu ρ j z := by
          intro h2
          have hjk : j ≠ k := fun h3 => hd2.1 (h3 ▸ find_mem h)
          unfold nu at h2
          cases q : ρ k with
          | none =>
            rw [q] at h2
            cases q2 : ρ j with
            | none => rw [q2] at h2; exact c h2
            | some y => rw [q2] at h2; exact N.out j y q2 ((show x = y from h2) ▸ hx)
          | some y =>
            rw [q] at h2
            cases q2 : ρ j with
            | none => rw [q2] at h2; exact N.out k y q ((show y = z from h2) ▸ hz)
            | some y2 =>
              rw [q2] at h2
              have h2 : y = y2 := h2
              exact hjk (N.inj j k y2 q2 (h2 ▸ q))
        refine ⟨List.mem_cons_of_mem _ m, ?_⟩
        show (nu ρ k x :: nue ρ e).idxOf (nu ρ j z) = (x :: e.map (·.1)).idxOf z
        rw [List.idxOf_cons, List.idxOf_cons, show (nu ρ k x == nu ρ j z) = false by simpa using ne, show (x == z) = false by simpa using c, cond_false, cond_false, d]
/-- what is told so is, counted outwards, what is put in -/
theorem ren_cnt {ρ : Nat → Option Str} {ns : List Str} (N : New ρ ns) {nam : Str} {t : Wr} (hn : nam ∈ ns) : ∀ (w : Wr) (o : Nat) (e : List (Str × Nat)), (∀ z ∈ w.nms, z ∈ ns) → (e.map (·.2)).Nodup → (∀ p ∈ e, p.1 ∈ ns ∧ p.2 < o) →
    (∀ z, nam ∈ w.frL (e.map (·.1)) → z ∈ t.fr → z ∉ nue ρ e) →
    (∀ i x b l, w.subs[i]? = some (of x b) → (w.envs o e)[i]? = some l → nam ∈ b.frL (x :: l.map (·.1)) → nu ρ (o + i) x ∉ t.fr) →
    (ren ρ nam t w o e).cnt (nue ρ e) = (w.cnt (e.map (·.1))).sub nam (t.cnt [])
  | nm z, o, e, hw, hd, he, h1, h2 => by
    have hz := hw z (List.mem_singleton_self z)
    obtain ⟨k1, k2⟩ := nue_find N hz hd fun p hp => (he p hp).1
    show (match find z e with | none => if z = nam then t else nm z | some j => nm (nu ρ j z)).cnt (nue ρ e) = (if z ∈ e.map (·.1) then Bt.bd ((e.map (·.1)).idxOf z) else .fr z).sub nam (t.cnt [])
    cases q : find z e with
    | none =>
      have q2 := find_none.mp q
      rw [if_neg q2]
      show (if z = nam then t else nm z).cnt (nue ρ e) = if z = nam then t.cnt [] else .fr z
      by_cases c : z = nam
      · rw [if_pos c, if_pos c]
        have hm : nam ∈ (nm z).frL (e.map (·.1)) := by
          show nam ∈ if z ∈ e.map (·.1) then [] else [z]
          rw [if_neg q2, c]
          exact List.mem_singleton_self _
        exact cnt_closed t [] (nue ρ e) fun y hy => h1 y hm hy
      · rw [if_neg c, if_neg c]
        exact if_neg (k1 q)
    | some j =>
      obtain ⟨m, d⟩ := k2 j q
      have q2 : z ∈ e.map (·.1) := by
        by_cases c : z ∈ e.map (·.1)
        · exact c
        · rw [find_none.mpr c] at q; cases q
      rw [if_pos q2]
      show (if nu ρ j z ∈ nue ρ e then Bt.bd ((nue ρ e).idxOf (nu ρ j z)) else _) = Bt.bd _
      rw [if_pos m, d]
  | of x b, o, e, hw, hd, he, h1, h2 => by
    show Bt.of ((ren ρ nam t b (o + 1) ((x, o) :: e)).cnt (nue ρ ((x, o) :: e))) = Bt.of ((b.cnt (((x, o) :: e).map (·.1))).sub nam (t.cnt []))
    congr 1
    refine ren_cnt N hn b (o + 1) ((x, o) :: e) (fun z hz => hw z (List.mem_cons_of_mem _ hz)) ?_ ?_ ?_ ?_
    · refine List.nodup_cons.mpr ⟨fun hm => ?_, hd⟩
      obtain ⟨p, hp, ep⟩ := List.mem_map.mp hm
      have h3 := (he p hp).2
      have h4 : p.2 = o := ep
      omega
    · intro p hp
      rcases List.mem_cons.mp hp with rfl | hp
      · exact ⟨hw x List.mem_cons_self, Nat.lt_succ_self _⟩
      · exact ⟨(he p hp).1, Nat.lt_succ_of_lt (he p hp).2⟩
    · intro z hz ht hm
      have hz : nam ∈ b.frL (x :: e.map (·.1)) := hz
      rcases List.mem_cons.mp hm with hm | hm
      · have := h2 0 x b e rfl rfl hz
        rw [Nat.add_zero] at this
        exact this ((show z = nu ρ o x from hm) ▸ ht)
      · exact h1 z hz ht hm
    · intro i y c l hi hl hu
      rw [show o + 1 + i = o + (i + 1) by omega]
      exact h2 (i + 1) y c l hi hl hu
  | to a b, o, e, hw, hd, he, h1, h2 => by
    show Bt.to _ _ = Bt.to _ _
    congr 1
    · refine ren_cnt N hn a (o + 1) e (fun z hz => hw z (List.mem_append_left _ hz)) hd (fun p hp => ⟨(he p hp).1, Nat.lt_succ_of_lt (he p hp).2⟩) (fun z hz => h1 z (List.mem_append_left _ hz)) ?_
      intro i y c l hi hl hu
      rw [show o + 1 + i = o + (i + 1) by omega]
      have f := subs_lt hi
      refine h2 (i + 1) y c l ?_ ?_ hu
      · show (a.subs ++ b.subs)[i]? = _
        rw [List.getElem?_append_left (by rw [subs_len]; exact f)]
        exact hi
      · show (a.envs (o + 1) e ++ b.envs (o + 1 + a.sg) e)[i]? = _
        rw [List.getElem?_append_left (by rw [envs_len]; exact f)]
        exact hl
    · refine ren_cnt N hn b (o + 1 + a.sg) e (fun z hz => hw z (List.mem_append_right _ hz)) hd (fun p hp => ⟨(he p hp).1, by have := (he p hp).2; omega⟩) (fun z hz => h1 z (List.mem_append_right _ hz)) ?_
      intro i y c l hi hl hu
      rw [show o + 1 + a.sg + i = o + (a.sg + i + 1) by omega]
      refine h2 (a.sg + i + 1) y c l ?_ ?_ hu
      · show (a.subs ++ b.subs)[a.sg + i]? = _
        rw [List.getElem?_append_right (by rw [subs_len]; omega), subs_len, Nat.add_sub_cancel_left]
        exact hi
      · show (a.envs (o + 1) e ++ b.envs (o + 1 + a.sg) e)[a.sg + i]? = _
        rw [List.getElem?_append_right (by rw [envs_len]; omega), envs_len, Nat.add_sub_cancel_left]
        exact hl
end Wr
end TG
/-! the package's small defs: what they promise, wherever they stand -/
namespace TG
open PySem PySem.Spec L2
open PyProof.Rows hiding St
/-! ### values by their types -/
def tyN : List String := ["NoneType", "bool", "int", "str", "list", "tuple", "dict"]
def HasTy (K : PySem.W.Frag) (H : Hp) (v : V) (n : String) : Prop := TyX K H v (.type n) ∧ n ∈ tyN
theorem rd_lst {H H' : Hp} (s : Same H H') {a : Addr} {o : HO} (h : H a = some o) : H' a = some o := s _ _ h
theorem tyx_same {K : PySem.W.Frag} {H H' : Hp} {v : V} {t : Value} (h : TyX K H v t) (s : Same H H') : TyX K H' v t := by
  cases h with
  | base b =>
    cases b with
    | non => exact .base .non
    | bl x => exact .base (.bl x)
    | int i => exact .base (.int i)
    | str x => exact .base (.str x)
    | flt x => exact .base (.flt x)
    | lst e => exact .base (.lst (s _ _ e))
    | frz e => exact .base (.frz (s _ _ e))
    | tup e => exact .base (.tup (s _ _ e))
    | dK e => exact .base (.dK (s _ _ e))
    | dT e => exact .base (.dT (s _ _ e))
    | ins e cl ha hn htk hm => exact .base (.ins (s _ _ e) cl ha hn htk hm)
  | byt b => exact .byt b
  | set e => exact .set (s _ _ e)
  | kList e c => exact .kList e c
  | kTuple e c => exact .kTuple e c
  | kDict e c => exact .kDict e c
  | fTuple e => exact .fTuple (s _ _ e)
  | fDict e => exact .fDict (s _ _ e)
theorem HasTy.same {K : PySem.W.Frag} {H H' : Hp} {v : V} {n : String} (h : HasTy K H v n) (s : Same H H') : HasTy K H' v n := ⟨tyx_same h.1 s, h.2⟩
theorem HasTy.int {K : PySem.W.Frag} {H : Hp} (i : Int) : HasTy K H (.int i) "int" := ⟨.base (.int i), by decide⟩
theorem HasTy.str {K : PySem.W.Frag} {H : Hp} (z : Str) : HasTy K H (.str z) "str" := ⟨.base (.str z), by decide⟩
theorem HasTy.non {K : PySem.W.Frag} {H : Hp} : HasTy K H .non "NoneType" := ⟨.base .non, by decide⟩
theorem HasTy.bl {K : PySem.W.Frag} {H : Hp} (b : Bool) : HasTy K H (.bl b) "bool" := ⟨.base (.bl b), by decide⟩
theorem HasTy.lst {K : PySem.W.Frag} {H : Hp} {a : Addr} {xs : List V} (e : H a = some (.lst xs)) : HasTy K H (.ref a) "list" := ⟨.base (.lst e), by decide⟩
theorem HasTy.tup {K : PySem.W.Frag} {H : Hp} {a : Addr} {xs : List V} (e : H a = some (.tup xs)) : HasTy K H (.ref a) "tuple" := ⟨.base (.tup e), by decide⟩
theorem HasTy.dct {K : PySem.W.Frag} {H : Hp} {a : Addr} {kvs : List (Key × V)} (e : H a = some (.dK kvs)) : HasTy K H (.ref a) "dict" := ⟨.base (.dK e), by decide⟩
def intV : V → Bool
  | .int _ => true
  | _ => false
def strV : V → Bool
  | .str _ => true
  | _ => false
theorem HasTy.isInt {K : PySem.W.Frag} {H : Hp} {v : V} {n : String} (h : HasTy K H v n) : (n == "int") = intV v := by
  obtain ⟨h, _⟩ := h
  generalize e : Value.type n = t at h
  cases h with
  | base b => cases b <;> first | (cases e; rfl) | cases e
  | _ => first | (cases e; rfl) | cases e
theorem HasTy.isStr {K : PySem.W.Frag} {H : Hp} {v : V} {n : String} (h : HasTy K H v n) : (n == "str") = strV v := by
  obtain ⟨h, _⟩ := h
  generalize e : Value.type n = t at h
  cases h with
  | base b => cases b <;> first | (cases e; rfl) | cases e
  | _ => first | (cases e; rfl) | cases e
theorem kit_all {c : String} {g : String → Bool} (h : tyN.all (fun n => kitB n c == some (g n)) = true) {K : PySem.W.Frag} {n : String} (hn : n ∈ tyN) : PySem.W.kitOne K (.type n) (.type c) = some (g n) :=
  kit_ty (eq_of_beq (List.all_eq_true.mp h n hn))
theorem kit_int {K : PySem.W.Frag} {n : String} (hn : n ∈ tyN) : PySem.W.kitOne K (.type n) (.type "int") = some (n == "int" || n == "bool") := kit_all (g := fun n => n == "int" || n == "bool") (by decide +kernel) hn
theorem kit_bool {K : PySem.W.Frag} {n : String} (hn : n ∈ tyN) : PySem.W.kitOne K (.type n) (.type "bool") = some (n == "bool") := kit_all (g := fun n => n == "bool") (by decide +kernel) hn
theorem kit_str {K : PySem.W.Frag} {n : String} (hn : n ∈ tyN) : PySem.W.kitOne K (.type n) (.type "str") = some (n == "str") := kit_all (g := fun n => n == "str") (by decide +kernel) hn
theorem kit_list {K : PySem.W.Frag} {n : String} (hn : n ∈ tyN) : PySem.W.kitOne K (.type n) (.type "list") = some (n == "list") := kit_all (g := fun n => n == "list") (by decide +kernel) hn
theorem kit_tuple {K : PySem.W.Frag} {n : String} (hn : n ∈ tyN) : PySem.W.kitOne K (.type n) (.type "tuple") = some (n == "tuple") := kit_all (g := fun n => n == "tuple") (by decide +kernel) hn
def loB (i : Int) : V → Bool
  | .int a => decide (a ≤ i)
  | _ => true
def hiB (i : Int) : V → Bool
  | .int b => decide (i ≤ b)
  | _ => true
def withinV : V → V → V → Bool
  | .int i, lo, hi => loB i lo && hiB i hi
  | _, _, _ => false
def OptI (v : V) : Prop := v = .non ∨ ∃ i, v = .int i
def spIsInt (K : PySem.W.Frag) : Sp := fun vs H Q _ => ∃ (v : V) (n : String), vs = [v] ∧ HasTy K H v n ∧ Q (.bl (intV v)) H
def spWithin (K : PySem.W.Frag) : Sp := fun vs H Q _ => ∃ (v lo hi : V) (n : String), vs = [v, lo, hi] ∧ HasTy K H v n ∧ OptI lo ∧ OptI hi ∧ Q (.bl (withinV v lo hi)) H
theorem kit_lt {K : PySem.W.Frag} {n : String} (hn : n ∈ tyN) : PySem.W.kitAny K (.type n) [.type "list", .type "tuple"] = some (n == "list" || n == "tuple") := by
  by_cases e : n = "list"
  · subst e
    exact kitAny_cons (b := true) (kit_list hn) (fun z => nomatch z) (fun _ => rfl)
  · have h1 : (n == "list") = false := by simpa using e
    refine kitAny_cons (b := false) (by rw [kit_list hn, h1]) (fun _ => ?_) (fun z => nomatch z)
    rw [h1, Bool.false_or]
    by_cases e2 : n = "tuple"
    · subst e2
      exact kitAny_cons (b := true) (kit_tuple hn) (fun z => nomatch z) (fun _ => rfl)
    · have h2 : (n == "tuple") = false := by simpa using e2
      exact kitAny_cons (b := false) (by rw [kit_tuple hn, h2]) (fun _ => by rw [h2]; exact kitAny_nil) (fun z => nomatch z)
def numV (v : V) : Bool := withinV v (.int 0) .non
def spNums (K : PySem.W.Frag) : Sp := fun vs H Q _ => ∃ (v : V) (n : String), vs = [v] ∧ HasTy K H v n ∧
  ((n ≠ "list" ∧ n ≠ "tuple" ∧ ∀ H', Same H H' → Q (.bl false) H') ∨
   ∃ (a : Addr) (xs : List V), v = .ref a ∧ ((n = "list" ∧ H a = some (.lst xs)) ∨ (n = "tuple" ∧ H a = some (.tup xs))) ∧ (∀ x ∈ xs, ∃ m, HasTy K H x m) ∧ xs.length ≤ 1000 ∧ ∀ H', Same H H' → Q (.bl (xs.all numV)) H')
def letC (c : Nat) : Bool := decide (c ∈ ("abcdefghijklmnopqrstuvwxyz" : Str).cps.toList)
def digC (c : Nat) : Bool := decide (c ∈ ("0123456789" : Str).cps.toList)
def headC : List Nat → Bool
  | c :: _ => letC c
  | [] => false
def nameB (z : Str) : Bool := !inV (.str z) [.str "of", .str "to"] && (withinV (.int (z.length : Int)) (.int 1) (.int 12) && (headC z.cps.toList && z.cps.toList.all fun c => letC c || digC c))
def nameV : V → Bool
  | .str z => nameB z
  | _ => false
def spName (K : PySem.W.Frag) : Sp := fun vs H Q _ => ∃ (v : V) (n : String), vs = [v] ∧ HasTy K H v n ∧ (∀ z, v = .str z → z.length ≤ 1000) ∧ ∀ H', Same H H' → Q (.bl (nameV v)) H'

theorem letC_eq (c : Nat) : letC c = decide (97 ≤ c ∧ c ≤ 122) := by
  unfold letC
  rw [show ("abcdefghijklmnopqrstuvwxyz" : Str).cps.toList = List.range' 97 26 from by decide +kernel]
  refine decide_eq_decide.mpr ?_
  rw [List.mem_range'_1]
  omega
theorem digC_eq (c : Nat) : digC c = decide (48 ≤ c ∧ c ≤ 57) := by
  unfold digC
  rw [show ("0123456789" : Str).cps.toList = List.range' 48 10 from by decide +kernel]
  refine decide_eq_decide.mpr ?_
  rw [List.mem_range'_1]
  omega
theorem nameB_ok (z : Str) : nameB z = okN z := by
  have e1 : (!inV (.str z) [.str "of", .str "to"]) = (decide (z ≠ "of") && decide (z ≠ "to")) := by
    rw [show ([V.str "of", V.str "to"] : List V) = (["of", "to"] : List Str).map V.str from rfl, inV_strs]
    rw [Bool.eq_iff_iff]
    simp
  have e2 : withinV (.int (z.length : Int)) (.int 1) (.int 12) = (decide (1 ≤ z.length) && decide (z.length ≤ 12)) := by
    show (decide ((1 : Int) ≤ (z.length : Int)) && decide ((z.length : Int) ≤ 12)) = _
    rw [Bool.eq_iff_iff]
    simp only [Bool.and_eq_true, decide_eq_true_eq]
    omega
  have e3 : (headC z.cps.toList && z.cps.toList.all fun c => letC c || digC c) = (match z.cps.toList with
      | [] => false
      | c :: r => decide (97 ≤ c ∧ c ≤ 122) && r.all fun c => decide (97 ≤ c ∧ c ≤ 122) || decide (48 ≤ c ∧ c ≤ 57)) := by
    cases z.cps.toList with
    | nil => rfl
    | cons c r =>
      show (letC c && ((letC c || digC c) && r.all fun c => letC c || digC c)) = (decide (97 ≤ c ∧ c ≤ 122) && r.all fun c => decide (97 ≤ c ∧ c ≤ 122) || decide (48 ≤ c ∧ c ≤ 57))
      rw [show (fun c => letC c || digC c) = fun c => decide (97 ≤ c ∧ c ≤ 122) || decide (48 ≤ c ∧ c ≤ 57) from funext fun c => by rw [letC_eq, digC_eq], letC_eq]
      cases decide (97 ≤ c ∧ c ≤ 122) <;> simp
  unfold nameB okN
  rw [e1, e2, e3, Bool.and_assoc, Bool.and_assoc, Bool.and_assoc, Bool.and_assoc, Bool.and_assoc]
  all_goals rfl
theorem HasTy.sqL {K : PySem.W.Frag} {H : Hp} {a : Addr} {xs : List V} (h : SqL K H a xs) : HasTy K H (.ref a) "list" := by
  rcases h with (e | ⟨o, e⟩) | ⟨o, its, n, h1, h2, _⟩
  · exact .lst e
  · exact ⟨.base (.frz e), by decide⟩
  · exact ⟨.kList h1 h2, by decide⟩
theorem HasTy.sqT {K : PySem.W.Frag} {H : Hp} {a : Addr} {xs : List V} (h : SqT K H a xs) : HasTy K H (.ref a) "tuple" := by
  rcases h with (e | ⟨o, e⟩) | ⟨o, its, n, h1, h2, _⟩
  · exact .tup e
  · exact ⟨.fTuple e, by decide⟩
  · exact ⟨.kTuple h1 h2, by decide⟩
/-- a value that is data has a type -/
def tyD : PyData → String
  | .none => "NoneType"
  | .bool _ => "bool"
  | .int _ => "int"
  | .str _ => "str"
  | .list _ => "list"
  | .tuple _ => "tuple"
  | .dict _ => "dict"
theorem HasTy.dp {K : PySem.W.Frag} {H : Hp} {v : V} {d : PyData} (h : Dp K H v d) : HasTy K H v (tyD d) := by
  cases h with
  | non => exact .non
  | bl b => exact .bl b
  | int i => exact .int i
  | str z => exact .str z
  | lst h _ => exact .sqL h
  | tup h _ => exact .sqT h
theorem sqL_same {K : PySem.W.Frag} {H H' : Hp} {a : Addr} {xs : List V} (h : SqL K H a xs) (s : Same H H') : SqL K H' a xs := by
  rcases h with h | h
  · rcases h with h | ⟨o, h⟩
    · exact .inl (.inl (s _ _ h))
    · exact .inl (.inr ⟨o, s _ _ h⟩)
  · exact .inr h
mutual
theorem dp_same {K : PySem.W.Frag} {H H' : Hp} (s : Same H H') : ∀ {d : PyData} {v : V}, Dp K H v d → Dp K H' v d
  | _, _, .non => .non
  | _, _, .bl b => .bl b
  | _, _, .int i => .int i
  | _, _, .str z => .str z
  | _, _, .lst h t => .lst (sqL_same h s) (dpAll_same s t)
  | _, _, .tup h t => .tup (sqT_same h s) (dpAll_same s t)
theorem dpAll_same {K : PySem.W.Frag} {H H' : Hp} (s : Same H H') : ∀ {ds : List PyData} {vs : List V}, DpAll K H vs ds → DpAll K H' vs ds
  | _, _, .nil => .nil
  | _, _, .cons h t => .cons (dp_same s h) (dpAll_same s t)
end
/-- the constants of the checks, as the top leaves them -/
structure Cn (K : PySem.W.Frag) (mg : Str → Option Value) : Prop where
  lets : ∃ t, mg "LETTERS" = some (.str "abcdefghijklmnopqrstuvwxyz" t)
  digs : ∃ t, mg "DIGITS" = some (.str "0123456789" t)
  long : ∃ t, mg "LONGEST_NAME" = some (.int 12 t)
  nons : ∃ a, mg "NO_NAMES" = some (.ref a) ∧ ∀ H, SqT K H a [.str "of", .str "to"]
/-- the words of the layouts -/
structure Lw (mg : Str → Option Value) : Prop where
  of_ : ∃ t, mg "OF" = some (.str "of" t)
  to_ : ∃ t, mg "TO" = some (.str "to" t)
  nm_ : ∃ t, mg "NAME" = some (.str "name" t)
/-- how many parts stand behind a word -/
structure Pw (K : PySem.W.Frag) (w : World) (mg : Str → Option Value) : Prop where
  at_ : ∃ a, mg "PARTS" = some (.ref a) ∧ KDic K w a ∧ (∃ t, PySem.W.nsIn K a "of" = some (some (.int 1 t))) ∧ (∃ t, PySem.W.nsIn K a "to" = some (some (.int 2 t))) ∧ (∃ t, PySem.W.nsIn K a ">" = some (some (.int 2 t))) ∧ PySem.W.nsIn K a "name" = some none
/-- the class of the layouts, as the top leaves it -/
structure LayC (K : PySem.W.Frag) (mg : Str → Option Value) (C fI : Addr) : Prop where
  cl : Cls K C
  nS : NoAttr K C "signs"
  nE : NoAttr K C "ends"
  nB : NoAttr K C "below"
  nA : NoAttr K C "around"
  nI : NoAttr K C "binders"
  mgC : mg "Layout" = some (.ref C)
  mk_ : Mk K C fI
end TG
namespace TF51
open PySem PySem.Spec L2 TG TA
open PyProof.Rows hiding St
abbrev sNums : Stmt := top 3
theorem scNums : FnScope ["value", "item"] ["value"] (defScope sNums) := ⟨rfl, rfl, rfl, by decide +kernel, rfl, by decide +kernel, by decide +kernel⟩
abbrev sInt : Stmt := top 1
abbrev sWithin : Stmt := top 2
theorem scInt : FnScope ["value"] ["value"] (defScope sInt) := ⟨rfl, rfl, rfl, by decide +kernel, rfl, by decide +kernel, by decide +kernel⟩
theorem scWithin : FnScope ["value", "least", "most"] ["value", "least", "most"] (defScope sWithin) := ⟨rfl, rfl, rfl, by decide +kernel, rfl, by decide +kernel, by decide +kernel⟩
section
variable {P : Program} {w : World} {K : PySem.W.Frag} {mg : Str → Option Value} {base : Heap} {f f1 f2 f3 : Addr} {fd fd1 fd2 fd3 : FuncData}
theorem ok_isint (F : Fun K "is_integer" "is_integer" sInt f fd) (T : Bn mg) : FnOk P w K mg base CX0 1 f fd ["value"] (spIsInt K) := by
  refine F.ok scInt (fun vs H Q E h => ?_) (fun cdv A outer s H vs Q E hr h => ?_)
  · obtain ⟨v, n, rfl, _⟩ := h
    rfl
  obtain ⟨v, n, rfl, hv, q⟩ := h
  refine ⟨_, (pss_one (ps_ret (pe_and (pe_callB call_isi (by rfl) T.b_isinstance (by decide +kernel) (pa_cons (pv 0) (pa_cons (pe_bltn (v := .ty "int") (u := .type "int") (by rfl) T.b_int (by decide +kernel) rfl) pa_nil))) (pe_one (pe_not (pe_callB call_isi (by rfl) T.b_isinstance (by decide +kernel) (pa_cons (pv 0) (pa_cons (pe_bltn (v := .ty "bool") (u := .type "bool") (by rfl) T.b_bool (by decide +kernel) rfl) pa_nil)))))))), ?_⟩
  refine ⟨_, rfl, v, _, _, _, _, rfl, .ty "int", hv.1, kit_int hv.2, _, rfl, ?_⟩
  rw [← hv.isInt] at q
  by_cases e : n = "int"
  · subst e
    exact iteT ⟨_, rfl, v, _, _, _, _, rfl, .ty "bool", hv.1, kit_bool hv.2, _, rfl, q⟩
  · by_cases e2 : n = "bool"
    · subst e2
      exact iteT ⟨_, rfl, v, _, _, _, _, rfl, .ty "bool", hv.1, kit_bool hv.2, _, rfl, q⟩
    · have h1 : (n == "int") = false := by simpa using e
      have h2 : (n == "bool") = false := by simpa using e2
      rw [h1] at q ⊢
      rw [h2]
      exact iteF q
theorem ok_within (F : Fun K "is_within" "is_within" sWithin f fd) (T : Bn mg) (D_is_integer : Df K mg "is_integer" sInt f1 fd1 ["value"]) (G_is_integer : FnOk P w K mg base CX0 1 f1 fd1 ["value"] (spIsInt K)) : FnOk P w K mg base CX0 2 f fd ["value", "least", "most"] (spWithin K) := by
  refine F.ok scWithin (fun vs H Q E h => ?_) (fun cdv A outer s H vs Q E hr h => ?_)
  · obtain ⟨v, lo, hi, n, rfl, _⟩ := h
    rfl
  obtain ⟨v, lo, hi, n, rfl, hv, hlo, hhi, q⟩ := h
  refine ⟨_, (pss_cons (ps_if (pt_not (pt_val (pe_cd D_is_integer G_is_integer hr (by decide) (pa_cons (pv 0) pa_nil)))) (pss_one (ps_ret pe_bl)) pss_nil)
      (pss_one (ps_ret (pe_and (pe_or (pe_cmp (pc_isN (pv 1)) rfl) (pe_one (pe_cmpR op_le (pv 1) (pv 0) (nomark _)))) (pe_one (pe_or (pe_cmp (pc_isN (pv 2)) rfl) (pe_one (pe_cmpR op_le (pv 0) (pv 2) (nomark _))))))))), ?_⟩
  refine ⟨_, rfl, v, n, rfl, hv, _, rfl, ?_⟩
  cases e : intV v with
  | false =>
    refine iteT ?_
    have : withinV v lo hi = false := by cases v <;> first | rfl | cases e
    rw [this] at q
    exact q
  | true =>
    refine iteF ?_
    obtain ⟨i, rfl⟩ : ∃ i, v = .int i := by cases v <;> first | exact ⟨_, rfl⟩ | cases e
    rcases hlo with rfl | ⟨a, rfl⟩
    · refine ⟨_, rfl, _, rfl, iteT ⟨_, rfl, iteT ?_⟩⟩
      rcases hhi with rfl | ⟨b, rfl⟩
      · exact ⟨_, rfl, _, rfl, iteT q⟩
      · exact ⟨_, rfl, _, rfl, iteF ⟨_, rfl, _, rfl, _, _, rfl, rfl, q⟩⟩
    · refine ⟨_, rfl, _, rfl, iteF ⟨_, rfl, _, rfl, _, _, rfl, rfl, _, rfl, ?_⟩⟩
      by_cases c : a ≤ i
      · rw [decide_eq_true c]
        have hq : withinV (.int i) (.int a) hi = hiB i hi := by
          show (decide (a ≤ i) && _) = _
          rw [decide_eq_true c, Bool.true_and]
        rw [hq] at q
        refine iteT ?_
        rcases hhi with rfl | ⟨b, rfl⟩
        · exact ⟨_, rfl, _, rfl, iteT q⟩
        · exact ⟨_, rfl, _, rfl, iteF ⟨_, rfl, _, rfl, _, _, rfl, rfl, q⟩⟩
      · rw [decide_eq_false c]
        have hq : withinV (.int i) (.int a) hi = false := by
          show (decide (a ≤ i) && _) = _
          rw [decide_eq_false c, Bool.false_and]
        rw [hq] at q
        exact iteF q
theorem ok_nums (F : Fun K "are_numbers" "are_numbers" sNums f fd) (T : Bn mg) (D_is_within : Df K mg "is_within" sWithin f1 fd1 ["value", "least", "most"]) (G_is_within : FnOk P w K mg base CX0 2 f1 fd1 ["value", "least", "most"] (spWithin K)) : FnOk P w K mg base CX0 3 f fd ["value"] (spNums K) := by
  refine F.ok scNums (fun vs H Q E h => ?_) (fun cdv A outer s H vs Q E hr h => ?_)
  · obtain ⟨v, n, rfl, _⟩ := h
    rfl
  obtain ⟨v, n, rfl, hv, h⟩ := h
  rcases h with ⟨n1, n2, q⟩ | ⟨a, xs, rfl, hk, hty, hl, q⟩
  · refine ⟨_, (pss_cons (ps_if (pt_not (pt_val (pe_callB call_isiT (by rfl) T.b_isinstance (by decide +kernel) (pa_cons (pv 0) (pa_cons (pe_tup (pa_cons (pe_bltn (v := .ty "list") (u := .type "list") (by rfl) T.b_list (by decide +kernel) rfl) (pa_cons (pe_bltn (v := .ty "tuple") (u := .type "tuple") (by rfl) T.b_tuple (by decide +kernel) rfl) pa_nil))) pa_nil))))) (pss_one (ps_ret pe_bl)) pss_nil)
      (pss_one (ps_ret (pe_callB (cr_all rfl) (by rfl) T.b_all (by decide +kernel) (pa_cons (pe_lc (own := [("item", 1)]) (g := (gName 1)) (by rfl) scNums.nd (pi_list (pv 0)) (blkOk_by (own := [("item", 1)]) (N := ["value", "item"]) (sc := defScope sNums) (by decide +kernel)) (fun _ _ _ _ _ => (pg_name (i := 1) scNums.nd rfl (.inl rfl))) (fun _ _ _ _ _ => pts_nil) (fun _ _ _ _ _ => (pe_cd D_is_within G_is_within hr (by decide) (pa_cons (pv 1) (pa_cons pe_int (pa_cons pe_non pa_nil)))))) pa_nil))))), ?_⟩
    refine ⟨_, rfl, (by show 2 ≤ sizeLine; decide), fun tp htp => ?_⟩
    have s1 := same_new (o := .tup [.ty "list", .ty "tuple"]) htp
    refine ⟨v, tp, _, _, [.type "list", .type "tuple"], _, rfl, upd_same, .cons (.ty _) (.cons (.ty _) .nil), tyx_same hv.1 s1, kit_lt hv.2, _, rfl, ?_⟩
    have h1 : (n == "list" || n == "tuple") = false := by simp [n1, n2]
    rw [h1]
    exact iteT (q _ s1)
  rcases hk with ⟨rfl, ha⟩ | ⟨rfl, ha⟩
  · refine ⟨_, (pss_cons (ps_if (pt_not (pt_val (pe_callB call_isiT (by rfl) T.b_isinstance (by decide +kernel) (pa_cons (pv 0) (pa_cons (pe_tup (pa_cons (pe_bltn (v := .ty "list") (u := .type "list") (by rfl) T.b_list (by decide +kernel) rfl) (pa_cons (pe_bltn (v := .ty "tuple") (u := .type "tuple") (by rfl) T.b_tuple (by decide +kernel) rfl) pa_nil))) pa_nil))))) (pss_one (ps_ret pe_bl)) pss_nil)
      (pss_one (ps_ret (pe_callB (cr_all rfl) (by rfl) T.b_all (by decide +kernel) (pa_cons (pe_lc (own := [("item", 1)]) (g := (gName 1)) (by rfl) scNums.nd (pi_list (pv 0)) (blkOk_by (own := [("item", 1)]) (N := ["value", "item"]) (sc := defScope sNums) (by decide +kernel)) (fun _ _ _ _ _ => (pg_name (i := 1) scNums.nd rfl (.inl rfl))) (fun _ _ _ _ _ => pts_nil) (fun _ _ _ _ _ => (pe_cd D_is_within G_is_within hr (by decide) (pa_cons (pv 1) (pa_cons pe_int (pa_cons pe_non pa_nil)))))) pa_nil))))), ?_⟩
    refine ⟨_, rfl, (by show 2 ≤ sizeLine; decide), fun tp htp => ?_⟩
    have s1 := same_new (o := .tup [.ty "list", .ty "tuple"]) htp
    refine ⟨.ref a, tp, _, _, [.type "list", .type "tuple"], _, rfl, upd_same, .cons (.ty _) (.cons (.ty _) .nil), tyx_same hv.1 s1, kit_lt hv.2, _, rfl, ?_⟩
    refine iteF ?_
    refine ⟨_, rfl, a, rfl, ⟨_, SqL.of (s1 _ _ ha)⟩, fun D hD => ?_⟩
    have hD0 := s1.free hD
    refine lc_list (K := K) (a := a) (xs := xs) (fun i H2 => Same H H2 ∧ H2 D = some (.lst ((xs.map fun x => V.bl (numV x)).take i))) ?_ ?_ ?_ ?_
    · exact ⟨s1.trans (same_new hD), by rw [upd_same, List.take_zero]⟩
    · rintro i H2 _ ⟨s2, _⟩
      exact SqL.of (s2 _ _ ha)
    · rintro i x H2 hx ⟨s2, h3⟩
      obtain ⟨m, hm⟩ := hty x (List.mem_of_getElem? hx)
      refine ⟨rfl, _, rfl, x, _, _, m, rfl, hm.same s2, .inr ⟨0, rfl⟩, .inl rfl, _, h3, ?_, ?_⟩
      · rw [List.length_take, List.length_map]
        exact small1000 (by omega)
      · refine ⟨fun y o hy => ?_, ?_⟩
        · rw [upd_ne (ne_of_none hy hD0)]
          exact s2 y o hy
        · rw [upd_same, take_snoc (x := V.bl (numV x)) (by rw [List.getElem?_map, hx]; rfl)]
          rfl
    · rintro H2 ⟨s2, h3⟩
      rw [List.take_of_length_le (by rw [List.length_map]; exact Nat.le_refl _)] at h3
      refine ⟨D, xs.map numV, rfl, SqL.of (by rw [h3, List.map_map]; rfl), ?_⟩
      rw [List.all_map]
      exact q _ s2
  · refine ⟨_, (pss_cons (ps_if (pt_not (pt_val (pe_callB call_isiT (by rfl) T.b_isinstance (by decide +kernel) (pa_cons (pv 0) (pa_cons (pe_tup (pa_cons (pe_bltn (v := .ty "list") (u := .type "list") (by rfl) T.b_list (by decide +kernel) rfl) (pa_cons (pe_bltn (v := .ty "tuple") (u := .type "tuple") (by rfl) T.b_tuple (by decide +kernel) rfl) pa_nil))) pa_nil))))) (pss_one (ps_ret pe_bl)) pss_nil)
      (pss_one (ps_ret (pe_callB (cr_all rfl) (by rfl) T.b_all (by decide +kernel) (pa_cons (pe_lc (own := [("item", 1)]) (g := (gName 1)) (by rfl) scNums.nd (pi_tup (pv 0)) (blkOk_by (own := [("item", 1)]) (N := ["value", "item"]) (sc := defScope sNums) (by decide +kernel)) (fun _ _ _ _ _ => (pg_name (i := 1) scNums.nd rfl (.inl rfl))) (fun _ _ _ _ _ => pts_nil) (fun _ _ _ _ _ => (pe_cd D_is_within G_is_within hr (by decide) (pa_cons (pv 1) (pa_cons pe_int (pa_cons pe_non pa_nil)))))) pa_nil))))), ?_⟩
    refine ⟨_, rfl, (by show 2 ≤ sizeLine; decide), fun tp htp => ?_⟩
    have s1 := same_new (o := .tup [.ty "list", .ty "tuple"]) htp
    refine ⟨.ref a, tp, _, _, [.type "list", .type "tuple"], _, rfl, upd_same, .cons (.ty _) (.cons (.ty _) .nil), tyx_same hv.1 s1, kit_lt hv.2, _, rfl, ?_⟩
    refine iteF ?_
    refine ⟨_, rfl, a, rfl, ⟨_, SqT.of (s1 _ _ ha)⟩, fun D hD => ?_⟩
    have hD0 := s1.free hD
    refine lc_tup (K := K) (a := a) (xs := xs) (fun i H2 => Same H H2 ∧ H2 D = some (.lst ((xs.map fun x => V.bl (numV x)).take i))) ?_ ?_ ?_ ?_
    · exact ⟨s1.trans (same_new hD), by rw [upd_same, List.take_zero]⟩
    · rintro i H2 _ ⟨s2, _⟩
      exact SqT.of (s2 _ _ ha)
    · rintro i x H2 hx ⟨s2, h3⟩
      obtain ⟨m, hm⟩ := hty x (List.mem_of_getElem? hx)
      refine ⟨rfl, _, rfl, x, _, _, m, rfl, hm.same s2, .inr ⟨0, rfl⟩, .inl rfl, _, h3, ?_, ?_⟩
      · rw [List.length_take, List.length_map]
        exact small1000 (by omega)
      · refine ⟨fun y o hy => ?_, ?_⟩
        · rw [upd_ne (ne_of_none hy hD0)]
          exact s2 y o hy
        · rw [upd_same, take_snoc (x := V.bl (numV x)) (by rw [List.getElem?_map, hx]; rfl)]
          rfl
    · rintro H2 ⟨s2, h3⟩
      rw [List.take_of_length_le (by rw [List.length_map]; exact Nat.le_refl _)] at h3
      refine ⟨D, xs.map numV, rfl, SqL.of (by rw [h3, List.map_map]; rfl), ?_⟩
      rw [List.all_map]
      exact q _ s2
end
end TF51
/-! layouts in the heap -/
namespace TG
open PySem PySem.Spec L2
open PyProof.Rows hiding St
theorem small_le {n : Nat} (h : n ≤ 1000000) : n < sizeLine := by rw [sizeLine_eq]; omega
theorem kget_of {K : PySem.W.Frag} {a : Addr} {k : Str} {Q : VK} {H : Hp} {n : Int} (h : (∃ u, PySem.W.nsIn K a k = some (some u) ∧ RelV (.int n) u) ∨ (PySem.W.nsIn K a k = some none ∧ V.int 0 = V.int n)) (q : Q (.int n) H) :
    (∃ v u, PySem.W.nsIn K a k = some (some u) ∧ RelV v u ∧ Q v H) ∨ (PySem.W.nsIn K a k = some none ∧ Q (.int 0) H) := by
  rcases h with ⟨u, e, r⟩ | ⟨e, z⟩
  · exact .inl ⟨_, u, e, r, q⟩
  · exact .inr ⟨e, by rw [z]; exact q⟩
theorem ixN_of {n j : Nat} (hj : j < n) : ixN n (j : Int) = some j := by
  unfold ixN
  rw [if_pos (by omega), if_pos (by omega)]
  simp
theorem zero_len {n : Nat} : (List.replicate n [V.int 0]).flatten = List.replicate n (V.int 0) := by
  induction n with
  | zero => rfl
  | succ n ih => rw [List.replicate_succ, List.flatten_cons, ih]; rfl
theorem non_len {n : Nat} : (List.replicate n [V.non]).flatten = List.replicate n V.non := by
  induction n with
  | zero => rfl
  | succ n ih => rw [List.replicate_succ, List.flatten_cons, ih]; rfl
/-- where the j-th part ends that stands in it, counted from it -/
def Wr.cut : Wr → Nat → Nat
  | .nm _, _ => 1
  | .of _ b, j => if j = 0 then 1 else 1 + b.sg
  | .to a b, j => if j = 0 then 1 else if j = 1 then 1 + a.sg else 1 + a.sg + b.sg
theorem Wr.cut_zero : ∀ s : Wr, s.cut 0 = 1
  | .nm _ => rfl
  | .of _ _ => rfl
  | .to _ _ => rfl
theorem Wr.cut_pos : ∀ (s : Wr) (j : Nat), 1 ≤ s.cut j
  | .nm _, _ => Nat.le_refl _
  | .of _ b, j => by show 1 ≤ if j = 0 then 1 else 1 + b.sg; split <;> omega
  | .to a b, j => by show 1 ≤ if j = 0 then 1 else if j = 1 then 1 + a.sg else 1 + a.sg + b.sg; split; omega; split <;> omega
theorem Wr.cut_end : ∀ s : Wr, s.cut s.kids.length = s.sg
  | .nm _ => rfl
  | .of _ b => by show 1 + b.sg = b.sg + 1; omega
  | .to a b => by show 1 + a.sg + b.sg = a.sg + b.sg + 1; omega
theorem Wr.cut_kid : ∀ {w s : Wr} {i j : Nat}, w.subs[i]? = some s → j < s.kids.length → ∃ c, w.subs[i + s.cut j]? = some c ∧ s.cut (j + 1) = s.cut j + c.sg ∧ s.kids[j]? = some (s.cut j)
  | w, .nm _, i, j, h, hj => absurd hj (Nat.not_lt_zero j)
  | w, .of x b, i, j, h, hj => by
    have hj : j < 1 := hj
    obtain rfl : j = 0 := by omega
    exact ⟨b, kid_of h, rfl, rfl⟩
  | w, .to a b, i, j, h, hj => by
    have hj : j < 2 := hj
    by_cases c : j = 0
    · subst c
      exact ⟨a, kid_one h, rfl, rfl⟩
    · obtain rfl : j = 1 := by omega
      exact ⟨b, by rw [show i + (Wr.to a b).cut 1 = i + 1 + a.sg from (Nat.add_assoc i 1 a.sg).symm]; exact kid_two h, rfl, rfl⟩
def kidV (i : Nat) (s : Wr) : List V := s.kids.map fun k => V.int ((i + k : Nat) : Int)
/-- the words of a writing's signs -/
def wdV (w : Wr) : List V := w.subs.map fun s => V.str s.wd
theorem wdV_at {w s : Wr} {i : Nat} (h : w.subs[i]? = some s) : (wdV w)[i]? = some (V.str s.wd) := by
  unfold wdV
  rw [List.getElem?_map, h]
  rfl
theorem wdV_len (w : Wr) : (wdV w).length = w.sg := by
  unfold wdV
  rw [List.length_map, w.subs_len]
/-- where each part ends -/
def EndsAt (H : Hp) (e : Addr) (w : Wr) : Prop := ∃ xs : List V, H e = some (.lst xs) ∧ xs.length = w.sg ∧ ∀ (i : Nat) (s : Wr), w.subs[i]? = some s → xs[i]? = some (V.int ((i + s.sg : Nat) : Int))
/-- where its own parts begin -/
def BelowAt (H : Hp) (b : Addr) (w : Wr) : Prop := ∃ bs : List Addr, H b = some (.lst (bs.map V.ref)) ∧ bs.length = w.sg ∧ ∀ (i : Nat) (s : Wr) (a : Addr), w.subs[i]? = some s → bs[i]? = some a → H a = some (.lst (kidV i s))
def optV : Option Nat → V
  | none => .non
  | some j => .int (j : Int)
/-- the "of" just around -/
def AroundAt (H : Hp) (a : Addr) (w : Wr) : Prop := ∃ xs : List V, H a = some (.lst xs) ∧ xs.length = w.sg ∧ ∀ i, i < w.sg → xs[i]? = some (optV ((w.env i).head?.map (·.2)))
/-- the "of" that binds it -/
def BindAt (H : Hp) (a : Addr) (w : Wr) : Prop := ∃ xs : List V, H a = some (.lst xs) ∧ xs.length = w.sg ∧ ∀ i, i < w.sg → xs[i]? = some (optV (w.bnd i))
/-- the second of a sign's pair -/
def nvV : Wr → V
  | .nm z => .str z
  | .of x _ => .str x
  | .to _ _ => .non
/-- the signs, each a pair -/
def SignsAt (H : Hp) (a : Addr) (w : Wr) : Prop := ∃ ts : List Addr, H a = some (.lst (ts.map V.ref)) ∧ ts.length = w.sg ∧ ∀ (i : Nat) (s : Wr) (t : Addr), w.subs[i]? = some s → ts[i]? = some t → H t = some (.tup [.str s.wd, nvV s])
theorem EndsAt.same {H H' : Hp} {a : Addr} {w : Wr} (h : EndsAt H a w) (s : Same H H') : EndsAt H' a w := let ⟨xs, e, l, k⟩ := h; ⟨xs, s _ _ e, l, k⟩
theorem BelowAt.same {H H' : Hp} {a : Addr} {w : Wr} (h : BelowAt H a w) (s : Same H H') : BelowAt H' a w := let ⟨bs, e, l, k⟩ := h; ⟨bs, s _ _ e, l, fun i t a h1 h2 => s _ _ (k i t a h1 h2)⟩
theorem AroundAt.same {H H' : Hp} {a : Addr} {w : Wr} (h : AroundAt H a w) (s : Same H H') : AroundAt H' a w := let ⟨xs, e, l, k⟩ := h; ⟨xs, s _ _ e, l, k⟩
theorem BindAt.same {H H' : Hp} {a : Addr} {w : Wr} (h : BindAt H a w) (s : Same H H') : BindAt H' a w := let ⟨xs, e, l, k⟩ := h; ⟨xs, s _ _ e, l, k⟩
theorem SignsAt.same {H H' : Hp} {a : Addr} {w : Wr} (h : SignsAt H a w) (s : Same H H') : SignsAt H' a w := let ⟨xs, e, l, k⟩ := h; ⟨xs, s _ _ e, l, fun i t a h1 h2 => s _ _ (k i t a h1 h2)⟩
/-- a store where nothing stood ahead -/
theorem same_put {H H2 : Hp} {a : Addr} {o : HO} (s : Same H H2) (h : H a = none) : Same H (L2.upd H2 a o) := fun b u e => by
  rw [upd_ne (ne_of_none e h)]
  exact s b u e
theorem get_lt {α : Type} {xs : List α} {i : Nat} (h : i < xs.length) : ∃ x, xs[i]? = some x := ⟨xs[i], List.getElem?_eq_getElem h⟩
theorem lt_get {α : Type} {xs : List α} {i : Nat} {x : α} (h : xs[i]? = some x) : i < xs.length := (List.getElem?_eq_some_iff.mp h).1
theorem mem_get {α : Type} {xs : List α} {i : Nat} {x : α} (h : xs[i]? = some x) : x ∈ xs := List.mem_of_getElem? h
theorem nodup_get {α : Type} {xs : List α} (n : xs.Nodup) {i j : Nat} {x : α} (h : xs[i]? = some x) (k : xs[j]? = some x) : i = j := by
  obtain ⟨hi, e1⟩ := List.getElem?_eq_some_iff.mp h
  obtain ⟨hj, e2⟩ := List.getElem?_eq_some_iff.mp k
  exact (List.getElem_inj n).mp (e1.trans e2.symm)
theorem wr_get (w : Wr) {i : Nat} (h : i < w.sg) : ∃ s, w.subs[i]? = some s := get_lt (by rw [w.subs_len]; exact h)
def spBounds : Sp := fun vs H Q _ => ∃ (r : Addr) (w : Wr), vs = [.ref r] ∧ H r = some (.lst (wdV w)) ∧ w.sg ≤ 2000 ∧
  ∀ (t e b : Addr) (H' : Hp), Same H H' → H' t = some (.tup [.ref e, .ref b]) → EndsAt H' e w → BelowAt H' b w → Q (.ref t) H'
def spAround : Sp := fun vs H Q _ => ∃ (g b : Addr) (w : Wr), vs = [.ref g, .ref b] ∧ SignsAt H g w ∧ BelowAt H b w ∧ w.sg ≤ 2000 ∧
  ∀ (a : Addr) (H' : Hp), Same H H' → AroundAt H' a w → Q (.ref a) H'
def spBinder : Sp := fun vs H Q _ => ∃ (g a : Addr) (w : Wr) (i : Nat), vs = [.ref g, .ref a, .int (i : Int)] ∧ SignsAt H g w ∧ AroundAt H a w ∧ i < w.sg ∧ w.sg ≤ 2000 ∧ w.all okN = true ∧
  Q (optV (w.bnd i)) H
end TG
/-! own rules: the sum of a tuple, enumerate of a tuple, zip of tuples as a walk; one of two readings -/
namespace TG
open PySem PySem.Spec L2
open PyProof.Rows hiding St
section
variable {X : Cx}
/-- sum(t), t a tuple of ints -/
def rSumT (K : PySem.W.Frag) : List V → Hp → VK → Prop := fun vs H Q => ∃ (t : Addr) (ns : List Int), vs = [V.ref t] ∧ SqT K H t (ns.map V.int) ∧ Q (.int ns.sum) H
theorem cr_sumT (hc : X.calm = true) : CallR X (.builtin "sum") (rSumT X.K) := by
  intro pins s σ H vs us Q I r h
  obtain ⟨t, ns, rfl, ht, q⟩ := h
  obtain ⟨its, rv, it, _⟩ := I.tuple ht
  cases Vals.ref1 r
  obtain ⟨xs, e⟩ := rv.ints.allInts.items
  have hn := rv.ints.numsOf
  rw [e] at it
  refine PySem.W.ktm_sumG (I.ok.hd hc) it fun h' tk t' k => ⟨.int ns.sum, H, I.kept k, ⟨t', ?_⟩, q⟩
  have e2 : numsOf (intItems xs).toList = ns := by
    rw [← e]
    exact hn
  rw [nums_intItems] at e2
  rw [preSum_eq, List.take_of_length_le (by simp), e2]
end
/-! ### enumerate(tuple) -/
theorem meets_enum1 {v : Value} {o : Obj} {G : Heap → Prop} (B : Begins v o G) :
    Meets (Builtin.«enumerate.__new__» ⟨[.type "enumerate", v], []⟩) (fun _ R s => G s.heap ∧
      R (.ok (.ret (.ref (s.heap.push o).objs.size))) { s with heap := (s.heap.push o).push { cls := .type "enumerate", data := .fields #[.none, .bool false, .ref s.heap.objs.size, rawInt 0, .none, .none] } }) := by
  refine .of_wp fun prog w A R s h => ?_
  obtain ⟨hp, g, d, tk, os⟩ := s
  obtain ⟨g1, h⟩ := h
  have hsub := sub_enumerate
  have step : ∀ {A2 : Around} {E : Value → Shared → Prop} {Q : Value → Shared → Prop}, Q (.ref hp.objs.size) ⟨hp.push o, g, d, tk, os⟩ → wpAny (model prog w) A2 (pyIter v) Q E ⟨hp, g, d, tk, os⟩ := by
    intro A2 E Q q
    exact B.iter prog w _ _ ⟨hp, g, d, tk, os⟩ _ g1 q
  wp_walk using step
  refine wpAny_stack_any fun st => wpAny_pure ?_
  split
  · rename_i c _ _ _ _ _
    by_cases e : (c == Value.type "enumerate") = true
    all_goals
      simp only [e]
      wp_walk using step
      exact ⟨_, rfl, h⟩
  · wp_walk using step
    exact ⟨_, rfl, h⟩
section
variable {prog : Program} {w : World} {A : Around} {E : Value → Shared → Prop} {s : Shared}
theorem call_enum1 {v : Value} {o : Obj} {G : Heap → Prop} {Q : Value → Shared → Prop} (B : Begins v o G) (g1 : G s.heap)
    (h : ∀ h2, IsEnum h2 (s.heap.objs.size + 1) s.heap.objs.size 0 .none → h2.get? s.heap.objs.size = some o → (∀ b u, s.heap.get? b = some u → h2.get? b = some u) → Q (.ref (s.heap.objs.size + 1)) { s with heap := h2 }) :
    wpAny (model prog w) A (call (.type "enumerate") [v]) Q E s := by
  have hz : (s.heap.push o).objs.size = s.heap.objs.size + 1 := Heap.size_push ..
  refine callType_new F.called_enumerate (by decide) (F.typeCall_enumerate_1 v) (F.newCall_enumerate_1 v) (fun x => F.args_object_init_2 x v) F.entry_enumerate_new (meets_enum1 B) ⟨g1, ?_⟩
  have at1 : ((s.heap.push o).push { cls := .type "enumerate", data := .fields #[.none, .bool false, .ref s.heap.objs.size, rawInt 0, .none, .none] }).get? (s.heap.push o).objs.size = some { cls := .type "enumerate", data := .fields #[.none, .bool false, .ref s.heap.objs.size, rawInt 0, .none, .none] } :=
    Heap.get?_push_size _ rfl
  rw [hz] at at1
  show _ ∧ _
  rw [hz]
  exact ⟨⟨_, at1, rfl⟩, h _ at1 (Heap.get?_push_of_some _ (Heap.get?_push_size _ B.free)) fun b u e => Heap.get?_push_of_some _ (Heap.get?_push_of_some _ e)⟩
end
/-- the tuple at a as it stands at each turn, each item in a new pair -/
def IteT (K : PySem.W.Frag) (a : Addr) : It :=
  ⟨fun i H => ∃ (xs : List V) (x : V), SqT K H a xs ∧ xs[i]? = some x,
   fun i H v H' => ∃ T x, v = .ref T ∧ H T = none ∧ H' = upd H T (.tup [.int (i : Nat), x]) ∧ ∀ xs, SqT K H a xs → xs[i]? = some x,
   fun i H => ∃ xs : List V, SqT K H a xs ∧ xs.length ≤ i⟩
theorem turn_enumT {P : Program} {w : World} {K : PySem.W.Frag} {elts : List Expr} {kk : Nat} {tpos : Pos} (a e it : Addr) :
    Turn P w K (.Tuple elts kk tpos) (IteT K a) [e, it] e (fun i h => (∃ old, IsEnum h e it ((i : Nat) : Int) old) ∧ h.IsTupleIter it a i ∧ e ≠ it) := by
  refine ⟨by simp, fun i h st b hb => ?_, fun i h h2 st k => ?_, ?_, ?_, ?_⟩
  · obtain ⟨⟨old, he⟩, ⟨o, ho, _, hd⟩, _⟩ := st
    rcases List.mem_cons.mp hb with rfl | hb
    · exact ⟨_, he, fun v q => nomatch q⟩
    · cases List.mem_singleton.mp hb
      exact ⟨o, ho, fun v q => nomatch hd.symm.trans q⟩
  · obtain ⟨⟨old, he⟩, hi, ne⟩ := st
    exact ⟨⟨old, k e List.mem_cons_self _ he⟩, hi.at fun o q => k it (by simp) o q, ne⟩
  · intro X hP hw hK hc i pins s σ H E I hf st hg
    cases hP; cases hw; cases hK
    obtain ⟨⟨old, he⟩, hit, ne⟩ := st
    obtain ⟨xs, x, hq, hx⟩ := hg
    obtain ⟨its, rv, tp, _⟩ := I.tuple hq
    obtain ⟨u, hu, ru⟩ := rv.get hx
    have le : e < s.heap.objs.size := Heap.lt_size he
    have li : it < s.heap.objs.size := let ⟨_, q, _⟩ := hit; Heap.lt_size q
    have ae : e ∉ [it, a] := by
      intro z
      rcases List.mem_cons.mp z with z | z
      · exact ne z
      · cases List.mem_singleton.mp z
        obtain ⟨o, ho, hcl, _⟩ := id tp
        have z2 := he.symm.trans ho
        cases z2
        exact nomatch (show Value.type "enumerate" = Value.type "tuple" from hcl)
    have ai : a ≠ it := by
      intro z
      subst z
      obtain ⟨o, ho, hcl, _⟩ := id tp
      obtain ⟨o2, ho2, hcl2, _⟩ := id hit
      have z2 := ho.symm.trans ho2
      cases z2
      exact nomatch (show Value.type "tuple" = Value.type "tuple_iterator" from hcl.symm.trans hcl2)
    have hI : its.toArray[i]? = some u := by simpa using hu
    have hlt : i < its.toArray.size := (Array.getElem?_eq_some_iff.mp hI).1
    refine wpAny_pyNext_enum_itemD (Draws.tuple (A := X.A.in1) (by simpa using I.ok.hd hc) it a ai its.toArray) he ⟨hit, tp⟩ hlt ne ae fun y h2 tk hy ho st2 hT _ hk => ?_
    cases Option.some.inj (hI.symm.trans hy)
    refine ⟨_, rfl, wpAny_letOwnedTupleGo_enum (s := { s with heap := h2, toks := tk + 1 }) ho fun h3 he3 sb => ?_⟩
    have hT3 : h3.get? s.heap.objs.size = some { cls := .type "tuple", data := .seq #[.int i tk, u] } := (sb.2 _ (Nat.ne_of_gt le)).trans hT
    have fresh := I.hok.fresh (Nat.le_refl s.heap.objs.size)
    have I1 : Inv X pins σ (upd H s.heap.objs.size (.tup [.int (i : Nat), x])) { s with heap := h3, toks := tk + 1 } := by
      refine I.turnedNew (ch := [e, it]) (fun b ob hb q => ?_) hf (Nat.le_refl _) ⟨by show 2 ≤ sizeLine; decide, [.int i tk, u], .cons ⟨_, rfl⟩ (.cons ru .nil), ⟨_, hT3, rfl, _, rfl⟩⟩
      have b1 : b ≠ e := fun z => hb (by simp [z])
      have b2 : b ≠ it := fun z => hb (by simp [z])
      exact (sb.2 b b1).trans (hk b ob b1 b2 q)
    refine ⟨.ref s.heap.objs.size, _, I1, rfl, ⟨_, x, rfl, fresh, rfl, fun ys hy => by rw [I.tuple_inj hy hq]; exact hx⟩, ⟨⟨u, by simpa using he3⟩, st2.1.at fun o q => (sb.2 it (Ne.symm ne)).trans q, ne⟩, fun b hb => ?_⟩
    have lb : b < s.heap.objs.size := by
      rcases List.mem_cons.mp hb with rfl | hb
      · exact le
      · cases List.mem_singleton.mp hb
        exact li
    rw [upd_ne (Nat.ne_of_lt lb)]
    exact (hf b hb).1
  · intro X hP hw hK hc i pins s σ H E I hf st hg
    cases hP; cases hw; cases hK
    obtain ⟨⟨old, he⟩, hit, ne⟩ := st
    obtain ⟨xs, hq, hx⟩ := hg
    obtain ⟨its, rv, tp, _⟩ := I.tuple hq
    have ai : a ≠ it := by
      intro z
      subst z
      obtain ⟨o, ho, hcl, _⟩ := id tp
      obtain ⟨o2, ho2, hcl2, _⟩ := id hit
      have z2 := ho.symm.trans ho2
      cases z2
      exact nomatch (show Value.type "tuple" = Value.type "tuple_iterator" from hcl.symm.trans hcl2)
    obtain ⟨f0, f1, f2, f3, f4, f5⟩ := hf it (by simp)
    have hl := rv.length
    have hT : s.TypeIs (.ref e) "enumerate" := ⟨_, he, rfl⟩
    unfold pyNext
    refine wpAny_bind (wpAny_attempt (wpAny_callSpecial?_slot (name := Str.ofString "__next__") hT F.slot_enumerate_next (wpAny_call_entry F.slot_enumerate_next hT F.entry_enumerate_next ?_ (F.args_enumerate_next_1 _))))
    show wpAny _ _ (field (.ref e) 2 >>= _) _ _ _
    refine wpAny_bind (wpAny_field he rfl (x := .ref it) rfl ?_)
    refine wpAny_bind (wpAny_nextOf_tuple_end (by simpa using I.ok.hd hc) hit tp (by simp; omega) fun h2 x ex hx2 => ?_)
    obtain ⟨o, ho, hcl⟩ := hx2
    refine wpAny_bind (wpAny_isInstance (T := "StopIteration") (b := true) ⟨o, ho, hcl⟩ isSubtype_stop ?_)
    exact wpAny_pure ⟨rfl, I.turned (t' := s.toks) (fun b u hb q => ex b u hb q) f0 f1 f3 f4 f5⟩
  · intro A i s Q E st h
    obtain ⟨⟨_, he⟩, _⟩ := st
    exact wpAny_pyIter_enum he h
def iEnumT (K : PySem.W.Frag) (ta : L2.TA) : TI := fun σ H R => ta σ H fun vs H1 => ∃ a xs, vs = [.ref a] ∧ SqT K H1 a xs ∧ R (IteT K a) H1
theorem pi_enumT {X : Cx} {e : Expr} {ta : L2.TA} {p pos tpos : Pos} {elts : List Expr} {kk : Nat} (hg : Gl X "enumerate") (hm : X.mg "enumerate" = none) (ha : PA X [e] ta) (hs : starEach [e] X.env = [(false, eval e X.env)] := by rfl) :
    PI X (.Tuple elts kk tpos) (.Call (.Name "enumerate" p) [e] [] pos) (iEnumT X.K ta) := by
  refine ⟨fun pins s σ H R I h => Call_ (ld_blt I hg hm boot_enumerate (PyProof.Rows.callWith_type1 (thn (ha.run pos pins s σ H _ I h) fun us s1 ⟨vs, H1, I1, r1, q1⟩ => ?_) hs rfl))⟩
  obtain ⟨a, xs, rfl, hq, q⟩ := q1
  cases Vals.ref1 r1
  obtain ⟨its, rv, tp, _⟩ := I1.tuple hq
  refine call_enum1 (begins_tuple a its.toArray) tp fun h2 he hit hk => wpAny_pyIter_enum he ?_
  have I2 : Inv X pins σ H1 { s1 with heap := h2 } := I1.kept (t' := s1.toks) hk
  refine ⟨s1.heap.objs.size + 1, [s1.heap.objs.size + 1, s1.heap.objs.size], _, _, H1, rfl, I2, turn_enumT a (s1.heap.objs.size + 1) s1.heap.objs.size, ⟨⟨.none, he⟩, ⟨_, hit, rfl, rfl⟩, Nat.succ_ne_self _⟩, fun b hb => ?_, q⟩
  have lb : s1.heap.objs.size ≤ b := by
    rcases List.mem_cons.mp hb with rfl | hb
    · omega
    · cases List.mem_singleton.mp hb
      exact Nat.le_refl _
  exact I1.fpOk lb (I1.hok.fresh lb)
section
variable {K : PySem.W.Frag} {a b : Addr} {xs ys : List V}
theorem walk_enumT : Walk (IteT K a) xs.length (fun H => SqT K H a xs) (YPair (fun i => some (.int (i : Nat))) (fun i => xs[i]?)) := by
  constructor
  · exact fun i _ hi q => ⟨xs, xs[i], q, by simp [hi]⟩
  · exact fun _ q => ⟨xs, q, Nat.le_refl _⟩
  · rintro i H v H' _ q ⟨T, x, h1, h2, h3, h4⟩
    exact ⟨T, .int (i : Nat), x, h1, h2, h3, rfl, h4 xs q⟩
theorem walk_zipT {n : Nat} (hn : n = min xs.length ys.length) : Walk (RZ.ItzT K a b) n (fun H => SqT K H a xs ∧ SqT K H b ys) (YPair (fun i => xs[i]?) (fun i => ys[i]?)) := by
  constructor
  · intro i _ hi q
    have h1 : i < xs.length := by omega
    have h2 : i < ys.length := by omega
    exact ⟨xs, ys, xs[i], ys[i], q.1, q.2, by simp [h1], by simp [h2]⟩
  · exact fun _ q => ⟨xs, ys, q.1, q.2, by omega⟩
  · rintro i H v H' _ q ⟨T, x, z, h1, h2, h3, h4, h5⟩
    exact ⟨T, x, z, h1, h2, h3, h4 xs q.1, h5 ys q.2⟩
end
/-! ### one of two readings -/
section
variable {X : Cx}
def eTwo (t1 t2 : TE) : TE := fun σ H Q => t1 σ H Q ∨ t2 σ H Q
def sTwo (t1 t2 : TS) : TS := fun D σ H => t1 D σ H ∨ t2 D σ H
theorem pe_or2 {e : Expr} {t1 t2 : TE} (h1 : PE X e t1) (h2 : PE X e t2) : PE X e (eTwo t1 t2) :=
  ⟨fun pins s σ H Q I h => h.elim (fun h => h1.run pins s σ H Q I h) fun h => h2.run pins s σ H Q I h⟩
theorem ps_or2 {st : Stmt} {t1 t2 : TS} (h1 : PS X st t1) (h2 : PS X st t2) : PS X st (sTwo t1 t2) :=
  ⟨fun pins s σ H D I h => h.elim (fun h => h1.run pins s σ H D I h) fun h => h2.run pins s σ H D I h⟩
end
/-! ### a walk whose body is whatever stands there -/
section
variable {J : It} {n : Nat} {G : Hp → Prop} {Y : Nat → Hp → V → Hp → Prop}
theorem walk_in (w : Walk J n G Y) {Fin : Hp → Prop} {Body : V → Hp → (Hp → Prop) → Prop} {H0 : Hp} (Pv : Nat → Hp → Prop) (h0 : Pv 0 H0) (hG : ∀ i H, i ≤ n → Pv i H → G H)
    (hs : ∀ i x H H2, i < n → Pv i H → Y i H x H2 → Body x H2 (Pv (i + 1))) (hd : ∀ H, Pv n H → Fin H) :
    ∃ W : Nat → Nat → Hp → Prop, (∃ m, W 0 m H0) ∧ ∀ i m H, W i m H → (J.stop i H ∧ Fin H) ∨ (J.go i H ∧ ∃ Nx : Hp → Prop, (∀ H2, Nx H2 → ∃ m2, m2 < m ∧ W (i + 1) m2 H2) ∧ ∀ x H2, J.yld i H x H2 → Body x H2 Nx) := by
  refine ⟨fun i m H => m + i = n ∧ Pv i H, ⟨n, rfl, h0⟩, fun i m H hw => ?_⟩
  obtain ⟨e, p⟩ := hw
  have g := hG i H (by omega) p
  by_cases c : i < n
  · exact .inr ⟨w.goes i H c g, Pv (i + 1), fun H2 p2 => ⟨m - 1, by omega, by omega, p2⟩, fun x H2 y => hs i x H H2 c p (w.yields i H x H2 c g y)⟩
  · have e2 : i = n := by omega
    subst e2
    exact .inl ⟨w.stops H g, hd H p⟩
end
/-! ### a list or a tuple to be taken apart -/
section
variable {X : Cx}
def gTwo (t1 t2 : TG) : TG := fun v σ H Q => t1 v σ H Q ∨ t2 v σ H Q
theorem pg_or2 {e : Expr} {t1 t2 : TG} (h1 : PG X e t1) (h2 : PG X e t2) : PG X e (gTwo t1 t2) := by
  constructor
  intro pins s σ H x v Q I r h
  exact h.elim (fun h => h1.run pins s σ H x v Q I r h) fun h => h2.run pins s σ H x v Q I r h
end
/-! ### a list or a tuple, whichever it is -/
def SqX (K : PySem.W.Frag) (H : Hp) (a : Addr) (xs : List V) : Prop := SqL K H a xs ∨ SqT K H a xs
theorem SqX.of {K : PySem.W.Frag} {H : Hp} {a : Addr} {xs : List V} (h : H a = some (.lst xs) ∨ H a = some (.tup xs)) : SqX K H a xs := h.imp SqL.of SqT.of
section
variable {X : Cx} {tg : Expr}
def iSeq (K : PySem.W.Frag) (te : TE) : TI := fun σ H R => te σ H fun x H1 => ∃ a xs, x = .ref a ∧ SqX K H1 a xs ∧
  ∀ (J : It) (G : Hp → Prop), Walk J xs.length G (YAt xs) → (∀ H2, (∀ o, H1 a = some o → H2 a = some o) → G H2) → R J H1
theorem pi_seq {e : Expr} {te : TE} (he : PE X e te) : PI X tg e (iSeq X.K te) := by
  refine ⟨fun pins s σ H R I h => thn (he.run pins s σ H _ I h) fun v s1 ⟨x, H1, I1, r1, a, xs, ex, hq, q⟩ => ?_⟩
  cases ex
  cases r1
  have fp : ∀ b ∈ [s1.heap.objs.size], FpOk X pins H1 b := fun b hb => by
    cases List.mem_singleton.mp hb
    exact I1.fpOk (Nat.le_refl _) (I1.hok.fresh (Nat.le_refl _))
  rcases hq with hq | hq
  · obtain ⟨its, rv, pl, _⟩ := I1.list hq
    exact wpAny_pyIter_list pl.isList ⟨s1.heap.objs.size, [s1.heap.objs.size], _, _, H1, rfl, I1.kept (t' := s1.toks) fun b o z => Heap.get?_push_of_some _ z, turn_list a _, ⟨_, Heap.get?_push_size _ rfl, rfl, rfl⟩, fp, q _ _ walk_list fun H2 k => hq.imp (Or.imp (k _) fun ⟨o, z⟩ => ⟨o, k _ z⟩) id⟩
  · obtain ⟨its, rv, pl, _⟩ := I1.tuple hq
    exact wpAny_pyIter_tuple (show s1.heap.IsTuple a its.toArray from pl) ⟨s1.heap.objs.size, [s1.heap.objs.size], _, _, H1, rfl, I1.kept (t' := s1.toks) fun b o z => Heap.get?_push_of_some _ z, turn_tuple a _, ⟨_, Heap.get?_push_size _ rfl, rfl, rfl⟩, fp, q _ _ walk_tup fun H2 k => hq.imp (Or.imp (k _) fun ⟨o, z⟩ => ⟨o, k _ z⟩) id⟩
theorem stays {H G0 G : Hp} {a : Addr} {u v : HO} (hk : H a = some u ∨ H a = some v) (s0 : Same H G0) (s : Same H G) : ∀ o, G0 a = some o → G a = some o := by
  intro o e
  rcases hk with h | h
  · cases Option.some.inj ((s0 _ _ h).symm.trans e)
    exact s _ _ h
  · cases Option.some.inj ((s0 _ _ h).symm.trans e)
    exact s _ _ h
/-- tuple(x), x a list or a tuple -/
def rTupX (K : PySem.W.Frag) : List V → Hp → VK → Prop := fun vs H Q => ∃ a xs, vs = [V.ref a] ∧ SqX K H a xs ∧ ∀ p H2, Same H H2 → SqT K H2 p xs → Q (.ref p) H2
theorem call_tupX : CallR X (.type "tuple") (rTupX X.K) := by
  intro pins s σ H vs us Q I r h
  obtain ⟨a, xs, rfl, hq, q⟩ := h
  refine call_tuple_of pins s σ H _ us Q I r ⟨a, xs, rfl, ?_⟩
  rcases hq with hq | hq
  · exact .inl ⟨hq, fun l hl => q l _ (fun b o hb => by rw [upd_ne (ne_of_none hb hl)]; exact hb) (SqT.of upd_same)⟩
  · exact .inr ⟨hq, q a H (fun _ _ z => z) hq⟩
end
section
variable {X : Cx}
/-- list(x), x a list or a tuple -/
def rListX (K : PySem.W.Frag) : List V → Hp → VK → Prop := fun vs H Q => ∃ a xs, vs = [V.ref a] ∧ SqX K H a xs ∧ ∀ p, H p = none → Q (.ref p) (upd H p (.lst xs))
theorem call_listX : CallR X (.type "list") (rListX X.K) := call_list_of
end
/-- what is taken apart into two -/
theorem apart2 {K : PySem.W.Frag} {n : Nat} {t : TGs} {σ : L2.St} {H : Hp} {Q : L2.St → Hp → Prop} {a : Addr} {u x : V} (h : H a = some (.lst [u, x]) ∨ H a = some (.tup [u, x])) (hn : 2 = n) (q : t [u, x] σ H Q) : gTwo (gTup K n t) (gLst K n t) (.ref a) σ H Q := by
  rcases h with h | h
  · exact .inr ⟨a, _, rfl, SqL.of h, hn, q⟩
  · exact .inl ⟨a, _, rfl, SqT.of h, hn, q⟩
end TG
/-! asks: choices, what is to be asked, answers; what the package's defs promise -/
namespace TG
open PySem PySem.Spec L2
open PyProof.Rows hiding St
/-- the choices of so many numbers, in order -/
def chs : Nat → List (List Int)
  | 0 => [[]]
  | m + 1 => (chs m).flatMap fun c => [c ++ [0], c ++ [1]]
theorem chs_ok : ∀ m, m ≤ 3 → (chs m).length ≤ 8 ∧ 1 ≤ (chs m).length ∧ ∀ c ∈ chs m, c.length = m ∧ ∀ s ∈ c, s = 0 ∨ s = 1 := by
  have h : ∀ m, m < 4 → (chs m).length ≤ 8 ∧ 1 ≤ (chs m).length ∧ ∀ c ∈ chs m, c.length = m ∧ ∀ s ∈ c, s = 0 ∨ s = 1 := by decide
  exact fun m hm => h m (by omega)
/-- the second numbers -/
def second : List Int → Int → Nat → List Int
  | [], _, _ => []
  | s :: r, n, k => n * s :: second r (if s = 1 then n ^ k else n) k
def askOf (c : List Int) : List Int → Option (List Int)
  | [] => some (c.map fun s => 2 * s)
  | [v] => if (1 : Int) ∈ c ∧ ¬ v < 2 then some (second c (v + 1) (Builtin.Int.intBits v)) else none
  | _ => none
def nextIn : List (List Int) → List (List Int) → Option (Nat × List Int)
  | c :: cs, t :: ts => match askOf c t with
    | some a => some (0, a)
    | none => (nextIn cs ts).map fun p => (p.1 + 1, p.2)
  | _, _ => none
/-- the greatest first value -/
def frst (c : List Int) : Option Int :=
  match c.sum.toNat with
  | 0 => none
  | 1 => some 1000000000000000000
  | 2 => some 10000
  | _ => some 200
def okF (c t : List Int) (x : Int) : Bool :=
  match t, frst c with
  | [], some m => decide (x ≤ m)
  | _, _ => true
def run (cs : List (List Int)) : List (List Int) → List (List Int × Int) → Option (List (List Int))
  | ts, [] => some ts
  | ts, (ns, x) :: r => match nextIn cs ts with
    | some (i, a) => if a = ns ∧ okF (cs.getD i []) (ts.getD i []) x = true then run cs (ts.set i (ts.getD i [] ++ [x])) r else none
    | none => none
/-- what is known of one choice: two values at most, the first one not too great -/
def OkT (c t : List Int) : Prop := t.length ≤ 2 ∧ ∀ v, t.head? = some v → 0 ≤ v ∧ ∀ m, frst c = some m → v ≤ m
theorem askOf_some {c t a : List Int} (h : askOf c t = some a) : t = [] ∨ ∃ v, t = [v] := by
  match t, h with
  | [], _ => exact .inl rfl
  | [v], _ => exact .inr ⟨v, rfl⟩
theorem OkT.snoc {c t a : List Int} {x : Int} (h : OkT c t) (ha : askOf c t = some a) (hx : 0 ≤ x) (ho : okF c t x = true) : OkT c (t ++ [x]) := by
  rcases askOf_some ha with rfl | ⟨v, rfl⟩
  · refine ⟨Nat.le_succ 1, fun v hv => ?_⟩
    cases Option.some.inj hv
    refine ⟨hx, fun m hm => ?_⟩
    unfold okF at ho
    rw [hm] at ho
    exact of_decide_eq_true ho
  · exact ⟨Nat.le_refl 2, h.2⟩
theorem OkT.nil (c : List Int) : OkT c [] := ⟨by decide, fun v hv => nomatch hv⟩
theorem nextIn_some : ∀ {cs ts : List (List Int)} {i : Nat} {a : List Int}, nextIn cs ts = some (i, a) → ∃ c t, cs[i]? = some c ∧ ts[i]? = some t ∧ askOf c t = some a
  | c :: cs, t :: ts, i, a, h => by
    unfold nextIn at h
    cases e : askOf c t with
    | some b =>
      rw [e] at h
      cases Option.some.inj h
      exact ⟨c, t, rfl, rfl, e⟩
    | none =>
      rw [e] at h
      obtain ⟨⟨j, b⟩, hp, e2⟩ := Option.map_eq_some_iff.mp h
      cases e2
      obtain ⟨c2, t2, h1, h2, h3⟩ := nextIn_some hp
      exact ⟨c2, t2, h1, h2, h3⟩
  | [], _, _, _, h => nomatch h
  | _ :: _, [], _, _, h => nomatch h
/-! ### bits -/
theorem bits_le {v : Int} {k : Nat} (h : v.natAbs < 2 ^ k) : Builtin.Int.intBits v ≤ k := by
  unfold Builtin.Int.intBits
  by_cases e : v = 0
  · rw [if_pos (by rw [e]; rfl)]
    exact Nat.zero_le _
  · rw [if_neg (by simpa using e)]
    have : v.natAbs.log2 < k := (Nat.log2_lt (by omega)).mpr h
    omega
theorem bits_gt {v : Int} (h : 2 ≤ v) : 2 ≤ Builtin.Int.intBits v ∧ v + 1 ≤ 2 ^ Builtin.Int.intBits v ∧ 2 ^ (Builtin.Int.intBits v - 1) ≤ v := by
  have e : Builtin.Int.intBits v = v.natAbs.log2 + 1 := by
    unfold Builtin.Int.intBits
    rw [if_neg]
    intro c
    have : v = 0 := by simpa using c
    omega
  have n0 : v.natAbs ≠ 0 := by omega
  have h1 : v.natAbs < 2 ^ (v.natAbs.log2 + 1) := (Nat.log2_lt n0).mp (Nat.lt_succ_self _)
  have h2 : 2 ^ v.natAbs.log2 ≤ v.natAbs := Nat.log2_self_le n0
  rw [e]
  refine ⟨?_, ?_, ?_⟩
  · have : 1 ≤ v.natAbs.log2 := (Nat.le_log2 n0).mpr (by omega)
    omega
  · have h3 : ((2 ^ (v.natAbs.log2 + 1) : Nat) : Int) = (2 : Int) ^ (v.natAbs.log2 + 1) := by rw [Int.natCast_pow]; rfl
    omega
  · have h3 : ((2 ^ v.natAbs.log2 : Nat) : Int) = (2 : Int) ^ v.natAbs.log2 := by rw [Int.natCast_pow]; rfl
    rw [Nat.add_sub_cancel]
    omega
/-- the size of what is reckoned on the way -/
theorem size_ok {c : List Int} {v : Int} (h01 : ∀ s ∈ c, s = 0 ∨ s = 1) (h3 : c.sum.toNat ≤ 3) (h1 : 1 ≤ c.sum.toNat) (h0 : 0 ≤ v) (hm : ∀ m, frst c = some m → v ≤ m) : Builtin.Int.intBits v * Builtin.Int.intBits v ^ c.sum.toNat ≤ 4100 := by
  have p : ∀ (k j n : Nat), v.natAbs < 2 ^ k → k * k ^ n ≤ 4100 → c.sum.toNat = n → Builtin.Int.intBits v * Builtin.Int.intBits v ^ c.sum.toNat ≤ 4100 := fun k _ n hv hk e => by
    have b := bits_le hv
    rw [e]
    exact Nat.le_trans (Nat.mul_le_mul b (Nat.pow_le_pow_left b n)) hk
  have q : c.sum.toNat = 1 ∨ c.sum.toNat = 2 ∨ c.sum.toNat = 3 := by omega
  unfold frst at hm
  rcases q with e | e | e
  · rw [e] at hm
    have := hm _ rfl
    exact p 60 0 1 (by omega) (by decide) e
  · rw [e] at hm
    have := hm _ rfl
    exact p 14 0 2 (by omega) (by decide) e
  · rw [e] at hm
    have := hm _ rfl
    exact p 8 0 3 (by omega) (by decide) e
/-! ### how numbers and answers stand in the heap -/
def SeqI (H : Hp) (v : V) (ns : List Int) : Prop := ∃ a, v = .ref a ∧ (H a = some (.lst (ns.map V.int)) ∨ H a = some (.tup (ns.map V.int)))
def AnsAt (H : Hp) (v : V) (e : List Int × Int) : Prop := ∃ (a : Addr) (u : V), v = .ref a ∧ (H a = some (.lst [u, .int e.2]) ∨ H a = some (.tup [u, .int e.2])) ∧ SeqI H u e.1
def TupAt (H : Hp) (v : V) (c : List Int) : Prop := ∃ a, v = .ref a ∧ H a = some (.tup (c.map V.int))
def LstAt (H : Hp) (v : V) (c : List Int) : Prop := ∃ a, v = .ref a ∧ H a = some (.lst (c.map V.int))
theorem SeqI.same {H H2 : Hp} {v : V} {ns : List Int} (h : SeqI H v ns) (s : Same H H2) : SeqI H2 v ns := by
  obtain ⟨a, e, h⟩ := h
  exact ⟨a, e, h.imp (s _ _) (s _ _)⟩
theorem AnsAt.same {H H2 : Hp} {v : V} {e : List Int × Int} (h : AnsAt H v e) (s : Same H H2) : AnsAt H2 v e := by
  obtain ⟨a, u, e1, h1, h2⟩ := h
  exact ⟨a, u, e1, h1.imp (s _ _) (s _ _), h2.same s⟩
theorem TupAt.same {H H2 : Hp} {v : V} {c : List Int} (h : TupAt H v c) (s : Same H H2) : TupAt H2 v c := by
  obtain ⟨a, e, h⟩ := h
  exact ⟨a, e, s _ _ h⟩
/-- all answers good for so many numbers -/
def AnsOk (m : Nat) (as : List (List Int × Int)) : Prop := ∀ e ∈ as, e.1.length = m ∧ (∀ n ∈ e.1, 0 ≤ n) ∧ 0 ≤ e.2
def AnsL (H : Hp) (v : V) (as : List (List Int × Int)) : Prop := ∃ (a : Addr) (vs : List V), v = .ref a ∧ (H a = some (.lst vs) ∨ H a = some (.tup vs)) ∧ Paired (AnsAt H) vs as
/-! ### promises -/
def spCM : Sp := fun vs H Q _ => ∃ m : Nat, vs = [.int (m : Int)] ∧ m ≤ 3 ∧ Q .non H
def spChs : Sp := fun vs H Q _ => ∃ m : Nat, vs = [.int (m : Int)] ∧ m ≤ 3 ∧ ∀ (p : Addr) (rs : List V) (H' : Hp), Same H H' → H' p = some (.tup rs) → Paired (TupAt H') rs (chs m) → Q (.ref p) H'
def spLad : Sp := fun vs H Q _ => ∃ (n : Int) (k e : Nat), vs = [.int n, .int (k : Int)] ∧ 0 ≤ n ∧ n ≤ 2 ^ e ∧ e * k ≤ 10000 ∧ e ≤ 10000 ∧ k ≤ 10000 ∧ ∀ (p : Addr) (H' : Hp), Same H H' → H' p = some (.lst ((List.range (k + 1)).map fun j => V.int (n ^ j))) → Q (.ref p) H'
def spBase : Sp := fun vs H Q _ => ∃ v : Int, vs = [.int v] ∧ ∀ (p : Addr) (H' : Hp), Same H H' → H' p = some (.tup [.int (v + 1), .int (Builtin.Int.intBits v : Nat)]) → Q (.ref p) H'
def spAsked : Sp := fun vs H Q _ => ∃ (a l : Addr) (c t : List Int), vs = [.ref a, .ref l] ∧ H a = some (.tup (c.map V.int)) ∧ H l = some (.lst (t.map V.int)) ∧ (∀ s ∈ c, s = 0 ∨ s = 1) ∧ c.length ≤ 3 ∧ OkT c t ∧
  (askOf c t = none → ∀ H', Same H H' → Q .non H') ∧ ∀ (r : List Int) (p : Addr) (H' : Hp), askOf c t = some r → Same H H' → H' p = some (.tup (r.map V.int)) → Q (.ref p) H'
/-- the values that were told, choice by choice -/
def ToldAt (H : Hp) (l : Addr) (cs ts : List (List Int)) : Prop := ∃ rs, H l = some (.lst rs) ∧ Paired (LstAt H) rs ts ∧ Paired OkT cs ts
def spNext : Sp := fun vs H Q _ => ∃ (m : Nat) (l : Addr) (ts : List (List Int)), vs = [.int (m : Int), .ref l] ∧ m ≤ 3 ∧ ToldAt H l (chs m) ts ∧
  (nextIn (chs m) ts = none → ∀ (p : Addr) (H' : Hp), Same H H' → H' p = some (.tup [.non, .non]) → Q (.ref p) H') ∧
  ∀ (i : Nat) (r : List Int) (p u : Addr) (H' : Hp), nextIn (chs m) ts = some (i, r) → Same H H' → H' p = some (.tup [.int (i : Int), .ref u]) → H' u = some (.tup (r.map V.int)) → Q (.ref p) H'
def spRefuse : Sp := fun vs H Q _ => ∃ (a l : Addr) (c t : List Int) (x : Int), vs = [.ref a, .ref l, .int x] ∧ H a = some (.tup (c.map V.int)) ∧ H l = some (.lst (t.map V.int)) ∧ (∀ s ∈ c, s = 0 ∨ s = 1) ∧ c.length ≤ 3 ∧ t.length ≤ 2 ∧ okF c t x = true ∧ Q .non H
def spIsAns (K : PySem.W.Frag) : Sp := fun vs H Q _ => ∃ (m : Nat) (v : V) (e : List Int × Int), vs = [.int (m : Int), v] ∧ AnsAt H v e ∧ m ≤ 3 ∧ e.1.length = m ∧ (∀ n ∈ e.1, 0 ≤ n) ∧ 0 ≤ e.2 ∧ ∀ H', Same H H' → Q (.bl true) H'
def spAreAns (K : PySem.W.Frag) : Sp := fun vs H Q _ => ∃ (m : Nat) (v : V) (as : List (List Int × Int)), vs = [.int (m : Int), v] ∧ AnsL H v as ∧ m ≤ 3 ∧ AnsOk m as ∧ as.length ≤ 100 ∧ ∀ H', Same H H' → Q (.bl true) H'
def spTold (K : PySem.W.Frag) : Sp := fun vs H Q _ => ∃ (m : Nat) (v : V) (as : List (List Int × Int)) (ts : List (List Int)), vs = [.int (m : Int), v] ∧ AnsL H v as ∧ m ≤ 3 ∧ AnsOk m as ∧ as.length ≤ 100 ∧ run (chs m) ((chs m).map fun _ => []) as = some ts ∧
  ∀ (l : Addr) (H' : Hp), Same H H' → ToldAt H' l (chs m) ts → Q (.ref l) H'
def spNextAsk (K : PySem.W.Frag) : Sp := fun vs H Q _ => ∃ (m : Nat) (v : V) (as : List (List Int × Int)) (ts : List (List Int)), vs = [.int (m : Int), v] ∧ AnsL H v as ∧ m ≤ 3 ∧ AnsOk m as ∧ as.length ≤ 100 ∧ run (chs m) ((chs m).map fun _ => []) as = some ts ∧
  (nextIn (chs m) ts = none → ∀ H', Same H H' → Q .non H') ∧ ∀ (i : Nat) (r : List Int) (u : Addr) (H' : Hp), nextIn (chs m) ts = some (i, r) → Same H H' → H' u = some (.tup (r.map V.int)) → Q (.ref u) H'
/-! ### lists that grow -/
theorem TupAt.updL {H : Hp} {v : V} {c : List Int} {D : Addr} {xs ys : List V} (h : TupAt H v c) (hD : H D = some (.lst xs)) : TupAt (L2.upd H D (.lst ys)) v c := by
  obtain ⟨a, e, ha⟩ := h
  refine ⟨a, e, ?_⟩
  rw [upd_ne]
  · exact ha
  · intro z
    subst z
    rw [ha] at hD
    cases hD
theorem tups_push {H : Hp} {D : Addr} {ds : List V} {L : List (List Int)} {y : V} {c : List Int} (hD : H D = some (.lst ds)) (h : Paired (TupAt H) ds L) (hy : TupAt H y c) : Paired (TupAt (L2.upd H D (.lst (ds ++ [y])))) (ds ++ [y]) (L ++ [c]) :=
  paired_snoc (hy.updL hD) (paired_imp (fun _ _ r => r.updL hD) h)
theorem tups_same {H H2 : Hp} {ds : List V} {L : List (List Int)} (h : Paired (TupAt H) ds L) (s : Same H H2) : Paired (TupAt H2) ds L := paired_imp (fun _ _ r => r.same s) h
theorem inV_ints (x : Int) (l : List Int) : inV (.int x) (l.map V.int) = decide (x ∈ l) := by
  unfold inV
  rw [List.any_map]
  induction l with
  | nil => rfl
  | cons y l ih =>
    rw [List.any_cons, ih]
    show (eqV (.int y) (.int x) || decide (x ∈ l)) = _
    have e : eqV (.int y) (.int x) = decide (x = y) := by
      show (y == x) = _
      rw [Bool.eq_iff_iff, beq_iff_eq, decide_eq_true_iff]
      exact eq_comm
    rw [e, Bool.eq_iff_iff, Bool.or_eq_true, decide_eq_true_iff, decide_eq_true_iff, decide_eq_true_iff, List.mem_cons]
theorem flat_ints (l : List Int) : (l.map V.int).all flatV = true := by
  rw [List.all_map]
  exact List.all_eq_true.mpr fun _ _ => rfl
theorem sum_01 : ∀ {c : List Int}, (∀ s ∈ c, s = 0 ∨ s = 1) → 0 ≤ c.sum ∧ c.sum ≤ c.length ∧ (1 ≤ c.sum ↔ (1 : Int) ∈ c)
  | [], _ => ⟨Int.le_refl _, Int.le_refl _, by simp⟩
  | s :: c, h => by
    obtain ⟨h1, h2, h3⟩ := sum_01 (c := c) fun x hx => h x (List.mem_cons_of_mem _ hx)
    rw [List.sum_cons, List.length_cons]
    rcases h s List.mem_cons_self with rfl | rfl
    · refine ⟨by omega, by omega, ?_⟩
      rw [List.mem_cons, ← h3]
      omega
    · refine ⟨by omega, by omega, ?_⟩
      simp
      omega
theorem paired_of {α β : Type} {R : α → β → Prop} : ∀ {xs : List α} {ys : List β} {i : Nat} {y : β}, Paired R xs ys → ys[i]? = some y → ∃ x, xs[i]? = some x ∧ R x y
  | _, _, 0, _, .cons r _, h => ⟨_, rfl, by cases Option.some.inj h; exact r⟩
  | _, _, i + 1, _, .cons _ t, h => by
    obtain ⟨x, h1, h2⟩ := paired_of (i := i) t h
    exact ⟨x, h1, h2⟩
  | _, _, _, _, .nil, h => nomatch h
theorem nextIn_step {cs ts : List (List Int)} {c t : List Int} {i : Nat} (hc : cs[i]? = some c) (ht : ts[i]? = some t) : nextIn (cs.drop i) (ts.drop i) = match askOf c t with
    | some a => some (0, a)
    | none => (nextIn (cs.drop (i + 1)) (ts.drop (i + 1))).map fun p => (p.1 + 1, p.2) := by
  have e1 : cs.drop i = c :: cs.drop (i + 1) := by
    rw [List.drop_eq_getElem_cons (List.getElem?_eq_some_iff.mp hc).1]
    congr 1
    exact (List.getElem?_eq_some_iff.mp hc).2
  have e2 : ts.drop i = t :: ts.drop (i + 1) := by
    rw [List.drop_eq_getElem_cons (List.getElem?_eq_some_iff.mp ht).1]
    congr 1
    exact (List.getElem?_eq_some_iff.mp ht).2
  rw [e1, e2]
  rfl
/-! ### lists by their addresses -/
def LAt (H : Hp) (a : Addr) (t : List Int) : Prop := H a = some (.lst (t.map V.int))
theorem lats_set {H : Hp} : ∀ {ads : List Addr} {ts : List (List Int)} {j : Nat} {a : Addr} {t : List Int}, ads.Nodup → Paired (LAt H) ads ts → ads[j]? = some a → Paired (LAt (L2.upd H a (.lst (t.map V.int)))) ads (ts.set j t)
  | [], _, _, _, _, _, _, h => nomatch h
  | b :: ads, u :: ts, 0, a, t, nd, .cons r p, h => by
    cases Option.some.inj h
    obtain ⟨n1, n2⟩ := List.nodup_cons.mp nd
    refine .cons upd_same ?_
    have keep : ∀ {ads : List Addr} {ts : List (List Int)}, b ∉ ads → Paired (LAt H) ads ts → Paired (LAt (L2.upd H b (.lst (t.map V.int)))) ads ts := by
      intro ads ts hn hp
      induction hp with
      | nil => exact .nil
      | cons r2 _ ih =>
        refine .cons ?_ (ih fun z => hn (List.mem_cons_of_mem _ z))
        show L2.upd H b _ _ = _
        rw [upd_ne fun z => hn (by rw [z]; exact List.mem_cons_self)]
        exact r2
    exact keep n1 p
  | b :: ads, u :: ts, j + 1, a, t, nd, .cons r p, h => by
    obtain ⟨n1, n2⟩ := List.nodup_cons.mp nd
    have h2 : ads[j]? = some a := h
    refine .cons ?_ (lats_set n2 p h2)
    show L2.upd H a _ b = _
    rw [upd_ne fun z => n1 (by rw [z]; exact List.mem_of_getElem? h2)]
    exact r
theorem lats_same {H H2 : Hp} {ads : List Addr} {ts : List (List Int)} (h : Paired (LAt H) ads ts) (s : Same H H2) : Paired (LAt H2) ads ts := paired_imp (fun _ _ r => s _ _ r) h
theorem lats_told {H : Hp} : ∀ {ads : List Addr} {ts : List (List Int)}, Paired (LAt H) ads ts → Paired (LstAt H) (ads.map V.ref) ts
  | _, _, .nil => .nil
  | _, _, .cons r p => .cons ⟨_, rfl, r⟩ (lats_told p)
theorem paired_set {α β : Type} {R : α → β → Prop} : ∀ {xs : List α} {ys : List β} {j : Nat} {y : β}, Paired R xs ys → (∀ x, xs[j]? = some x → R x y) → Paired R xs (ys.set j y)
  | _, _, _, _, .nil, _ => .nil
  | _, _, 0, _, .cons _ p, h => .cons (h _ rfl) p
  | _, _, j + 1, _, .cons r p, h => .cons r (paired_set p fun x hx => h x hx)
theorem ints_eqv : ∀ a b : List Int, PyData.eqvAll (a.map PyData.int) (b.map PyData.int) = decide (a = b)
  | [], [] => rfl
  | [], _ :: _ => rfl
  | _ :: _, [] => rfl
  | x :: a, y :: b => by
    show ((x == y) && PyData.eqvAll (a.map PyData.int) (b.map PyData.int)) = _
    rw [ints_eqv a b, Bool.eq_iff_iff]
    simp
theorem ints_shaped (l : List Int) : SeqAt.shaped (.tuple (l.map PyData.int)) = true ∧ SeqAt.shaped (.list (l.map PyData.int)) = true := by
  have h : PyData.canLayAll0 (l.map PyData.int) = true ∧ PyData.depthAll (l.map PyData.int) ≤ 0 := by
    induction l with
    | nil => exact ⟨rfl, Nat.le_refl _⟩
    | cons x l ih =>
      refine ⟨?_, ?_⟩
      · show (true && PyData.canLayAll0 (l.map PyData.int)) = true
        rw [ih.1]
        rfl
      · show max 0 (PyData.depthAll (l.map PyData.int)) ≤ 0
        have := ih.2
        omega
  have h2 := h.2
  refine ⟨?_, ?_⟩
  · show (PyData.canLayAll0 (l.map PyData.int) && decide (PyData.depthAll (l.map PyData.int) + 1 ≤ 64)) = true
    rw [h.1, decide_eq_true (by omega)]
    rfl
  · show (PyData.canLayAll0 (l.map PyData.int) && decide (PyData.depthAll (l.map PyData.int) + 1 ≤ 64)) = true
    rw [h.1, decide_eq_true (by omega)]
    rfl
theorem dp_ints {K : PySem.W.Frag} {H : Hp} : ∀ l : List Int, DpAll K H (l.map V.int) (l.map PyData.int)
  | [] => .nil
  | x :: l => .cons (.int x) (dp_ints l)
theorem lats_const {H : Hp} : ∀ {ads : List Addr} {cs : List (List Int)}, ads.length = cs.length → (∀ z ∈ ads, H z = some (.lst [])) → Paired (LAt H) ads (cs.map fun _ => [])
  | [], [], _, _ => .nil
  | a :: ads, c :: cs, h, k => .cons (k a List.mem_cons_self) (lats_const (by simpa using h) fun z hz => k z (List.mem_cons_of_mem _ hz))
  | [], _ :: _, h, _ => by simp at h
  | _ :: _, [], h, _ => by simp at h
theorem okT_const : ∀ cs : List (List Int), Paired OkT cs (cs.map fun _ => [])
  | [] => .nil
  | c :: cs => .cons (OkT.nil c) (okT_const cs)
theorem drop_at {α : Type} {xs : List α} {i : Nat} {x : α} (h : xs[i]? = some x) : xs.drop i = x :: xs.drop (i + 1) := by
  rw [List.drop_eq_getElem_cons (List.getElem?_eq_some_iff.mp h).1]
  congr 1
  exact (List.getElem?_eq_some_iff.mp h).2
end TG
namespace TF51
open PySem PySem.Spec L2 TG TA
open PyProof.Rows hiding St
/-! ### how many numbers, and their choices -/
abbrev sCM : Stmt := top 15
abbrev sChs : Stmt := top 17
theorem scCM : FnScope ["many"] ["many"] (defScope sCM) := ⟨rfl, rfl, rfl, by decide +kernel, rfl, by decide +kernel, by decide +kernel⟩
theorem scChs : FnScope ["many", "found", "_", "choice", "sign"] ["many"] (defScope sChs) := ⟨rfl, rfl, rfl, by decide +kernel, rfl, by decide +kernel, by decide +kernel⟩
section
variable {P : Program} {w : World} {K : PySem.W.Frag} {mg : Str → Option Value} {base : Heap} {f f1 : Addr} {fd fd1 : FuncData}
theorem ok_cm (F : Fun K "check_many" "check_many" sCM f fd) (T : Bn mg) (M3 : ∃ t, mg "MOST_NUMBERS" = some (.int 3 t)) (D_is_within : Df K mg "is_within" sWithin f1 fd1 ["value", "least", "most"]) (G_is_within : FnOk P w K mg base CX0 2 f1 fd1 ["value", "least", "most"] (spWithin K)) : FnOk P w K mg base CX0 3 f fd ["many"] spCM := by
  refine F.ok scCM (fun vs H Q E h => ?_) (fun cdv A outer s H vs Q E hr h => ?_)
  · obtain ⟨m, rfl, _⟩ := h
    rfl
  obtain ⟨m, rfl, hm, q⟩ := h
  obtain ⟨t3, gM3⟩ := M3
  refine ⟨_, (pss_one (ps_if (pt_not (pt_val (pe_cd D_is_within G_is_within hr (by decide) (pa_cons (pv 0) (pa_cons pe_int (pa_cons (pe_glob (v := .int 3) rfl gM3 ⟨_, rfl⟩) pa_nil)))))) (pss_one ps_never) pss_nil)), ?_⟩
  refine ⟨_, rfl, _, _, _, _, rfl, HasTy.int _, .inr ⟨_, rfl⟩, .inr ⟨_, rfl⟩, _, rfl, ?_⟩
  rw [show withinV (.int (m : Int)) (.int 0) (.int 3) = true from by show (decide ((0 : Int) ≤ m) && decide ((m : Int) ≤ 3)) = true; rw [decide_eq_true (by omega), decide_eq_true (by omega)]; rfl]
  exact iteF q
theorem ok_chs (F : Fun K "choices" "choices" sChs f fd) (T : Bn mg) (D_check_many : Df K mg "check_many" sCM f1 fd1 ["many"]) (G_check_many : FnOk P w K mg base CX0 3 f1 fd1 ["many"] spCM) : FnOk P w K mg base CX0 4 f fd ["many"] spChs := by
  refine F.ok scChs (fun vs H Q E h => ?_) (fun cdv A outer s H vs Q E hr h => ?_)
  · obtain ⟨m, rfl, _⟩ := h
    rfl
  obtain ⟨m, rfl, hm, q⟩ := h
  refine ⟨_, (pss_cons (ps_expr (pe_cd D_check_many G_check_many hr (by decide) (pa_cons (pv 0) pa_nil)))
    (pss_cons (ps_set (i := 1) scChs.nd rfl (.inl rfl) (pe_lst (pa_cons (pe_tup pa_nil) pa_nil)))
    (pss_cons (ps_for PassesOwn.never rfl (pi_range1 (by rfl) T.b_range (pa_cons (pv 0) pa_nil)) (pg_name (i := 2) scChs.nd rfl (.inl rfl))
      (pss_one (ps_setLc2 (i := 1) (own := [("choice", 3), ("sign", 4)]) (vs1 := [4]) (g := gName 3) (g1 := gName 4) rfl scChs.nd rfl rfl (sw_true rfl rfl rfl (by decide +kernel)) (pi_list (pv 1))
        (blkOk_by (own := [("choice", 3), ("sign", 4)]) (N := ["many", "found", "_", "choice", "sign"]) (sc := defScope sChs) (by decide +kernel)) (by decide)
        (fun _ _ _ _ _ => pg_name (i := 3) scChs.nd rfl (.inl rfl)) (fun _ _ _ _ _ => pts_nil) (fun _ _ _ _ _ => show PI _ _ _ (iTup K _) from pi_tup (pe_tup (pa_cons pe_int (pa_cons pe_int pa_nil))))
        (fun _ _ _ _ _ => pg_name (i := 4) scChs.nd rfl (.inl rfl)) (fun _ _ _ _ _ => pts_nil) (fun _ _ _ _ _ => pe_op (show OpR _ _ (rCatA K) from op_catA) (pv 3) (pe_tup (pa_cons (pv 4) pa_nil))))))
    (pss_one (ps_ret (pe_callTy call_tuple_of (by rfl) T.b_tuple (by decide +kernel) (pa_cons (pv 1) pa_nil))))))), ?_⟩
  refine ⟨_, rfl, m, rfl, hm, (by show 0 ≤ sizeLine; decide), fun t0 ht0 => ⟨(by show 1 ≤ sizeLine; decide), fun l0 hl0 => ?_⟩⟩
  have s0 := (new_same (o := .tup []) ht0).trans (new_same (o := .lst [.ref t0]) hl0)
  have t00 := new_same (o := .lst [.ref t0]) hl0 _ _ (upd_same (H := H) (a := t0) (o := .tup []))
  have l00 : (L2.upd (L2.upd H t0 (.tup [])) l0 (.lst [.ref t0])) l0 = some (.lst [.ref t0]) := upd_same
  generalize L2.upd (L2.upd H t0 (.tup [])) l0 (.lst [.ref t0]) = H1 at s0 t00 l00 ⊢
  refine ⟨_, rfl, (m : Int), rfl, by omega, by omega, ?_⟩
  refine for_range (lo := 0) (n := (m : Int).toNat) (fun k σ G => ∃ (l : Addr) (rs : List V) (v2 v3 v4 : Option V), σ = [some (.int (m : Int)), some (.ref l), v2, v3, v4] ∧ G l = some (.lst rs) ∧ Paired (TupAt G) rs (chs k) ∧ Same H1 G)
    ⟨l0, [.ref t0], _, _, _, rfl, l00, .cons ⟨t0, rfl, t00⟩ .nil, fun _ _ e => e⟩ ?_ ?_
  · rintro k σ G hk ⟨l, rs, v2, v3, v4, rfl, hl, hrs, s1⟩
    have hk3 : k < 3 := by omega
    obtain ⟨hlen, _, _⟩ := chs_ok k (by omega)
    refine ⟨_, rfl, l, rfl, ⟨_, SqL.of hl⟩, fun D hD => ?_⟩
    refine walk_in (walk_list (K := K) (a := l) (xs := rs)) (fun j G2 => Same G G2 ∧ ∃ ds, G2 D = some (.lst ds) ∧ ds.length ≤ 2 * j ∧ Paired (TupAt G2) ds (((chs k).take j).flatMap fun c => [c ++ [0], c ++ [1]])) ?_ ?_ ?_ ?_
    · exact ⟨new_same hD, [], upd_same, Nat.zero_le _, .nil⟩
    · rintro j G2 _ ⟨s2, _⟩
      exact SqL.of (s2 _ _ hl)
    · rintro j x _ G2 hj ⟨s2, ds, hds, lds, pds⟩ ⟨rfl, hx⟩
      obtain ⟨c, hc, hxc⟩ := TG.paired_get hrs hx
      have hj8 : j < 8 := by
        have := (List.getElem?_eq_some_iff.mp hc).1
        omega
      refine ⟨rfl, (by show 2 ≤ sizeLine; decide), fun t ht => ⟨t, rfl, ⟨_, SqT.of upd_same⟩, ?_⟩⟩
      have s3 := new_same (o := .tup [.int 0, .int 1]) ht
      have ht3 : (L2.upd G2 t (.tup [.int 0, .int 1])) t = some (.tup [.int 0, .int 1]) := upd_same
      have hds3 := s3 _ _ hds
      have pds3 := tups_same pds s3
      have hx3 := (hxc.same s2).same s3
      have s23 := s2.trans s3
      generalize L2.upd G2 t (.tup [.int 0, .int 1]) = G3 at s3 ht3 hds3 pds3 hx3 s23 ⊢
      have hDG : ∀ {G4 : Hp}, Same G G4 → ∀ o, Same G (L2.upd G4 D o) := fun s o => same_put s hD
      refine walk_in (walk_tup (K := K) (a := t) (xs := [.int 0, .int 1])) (fun i G4 => Same G G4 ∧ G4 t = some (.tup [.int 0, .int 1]) ∧ TupAt G4 x c ∧ ∃ ds2, G4 D = some (.lst ds2) ∧ ds2.length ≤ 2 * j + i ∧ Paired (TupAt G4) ds2 ((((chs k).take j).flatMap fun c => [c ++ [0], c ++ [1]]) ++ ([c ++ [0], c ++ [1]]).take i)) ?_ ?_ ?_ ?_
      · exact ⟨s23, ht3, hx3, ds, hds3, lds, by rw [List.take_zero, List.append_nil]; exact pds3⟩
      · rintro i G4 _ ⟨_, h, _⟩
        exact SqT.of h
      · rintro i y _ G4 hi ⟨s4, h4, hx4, ds2, hd2, l2, p2⟩ ⟨rfl, hy⟩
        have hi2 : i < 2 := hi
        have ntD : t ≠ D := fun z => by
          rw [z, hd2] at h4
          cases h4
        obtain ⟨s, hs, rfl⟩ : ∃ s : Int, ([c ++ [0], c ++ [1]] : List (List Int))[i]? = some (c ++ [s]) ∧ y = .int s := by
          match i, hi, hy with
          | 0, _, hy => exact ⟨0, rfl, (Option.some.inj hy).symm⟩
          | 1, _, hy => exact ⟨1, rfl, (Option.some.inj hy).symm⟩
        obtain ⟨ac, rfl, hac⟩ := hx4
        refine ⟨rfl, _, rfl, _, rfl, (by show 1 ≤ sizeLine; decide), fun u hu => ?_⟩
        have s5 := new_same (o := .tup [.int s]) hu
        have big : ds2.length < sizeLine := small1000 (by omega)
        have fin : ∀ (G6 : Hp) (z : V), Same G4 G6 → TupAt G6 z (c ++ [s]) → ∃ acc, G6 D = some (.lst acc) ∧ acc.length < sizeLine ∧ Same G (L2.upd G6 D (.lst (acc ++ [z]))) ∧ (L2.upd G6 D (.lst (acc ++ [z]))) t = some (.tup [.int 0, .int 1]) ∧ TupAt (L2.upd G6 D (.lst (acc ++ [z]))) (.ref ac) c ∧
            ∃ ds3, (L2.upd G6 D (.lst (acc ++ [z]))) D = some (.lst ds3) ∧ ds3.length ≤ 2 * j + (i + 1) ∧ Paired (TupAt (L2.upd G6 D (.lst (acc ++ [z])))) ds3 ((((chs k).take j).flatMap fun c => [c ++ [0], c ++ [1]]) ++ ([c ++ [0], c ++ [1]]).take (i + 1)) := by
          intro G6 z s6 hz
          have hd6 := s6 _ _ hd2
          refine ⟨ds2, hd6, big, hDG (s4.trans s6) _, ?_, (TupAt.same ⟨ac, rfl, hac⟩ s6).updL hd6, ds2 ++ [z], upd_same, by rw [List.length_append]; show ds2.length + 1 ≤ _; omega, ?_⟩
          · rw [upd_ne ntD]
            exact s6 _ _ h4
          · rw [take_more hs, ← List.append_assoc]
            exact tups_push hd6 (tups_same p2 s6) hz
        refine ⟨ac, u, _, _, rfl, rfl, SqT.of (s5 _ _ hac), SqT.of upd_same, ?_, fun e => ?_, fun _ e => absurd e (List.cons_ne_nil _ _), fun _ _ p hp => ?_⟩
        · have hcl := (chs_ok k (by omega)).2.2 c (List.mem_of_getElem? hc)
          rw [List.length_map, hcl.1]
          exact Nat.le_of_lt (small1000 (by show k + 1 ≤ 1000; omega))
        · have e2 : c = [] := List.map_eq_nil_iff.mp e
          subst e2
          exact fin _ _ s5 ⟨u, rfl, upd_same⟩
        · refine fin _ _ (s5.trans (new_same hp)) ⟨p, rfl, ?_⟩
          rw [upd_same, List.map_append]
          rfl
      · rintro G4 ⟨s4, _, _, ds2, hd2, l2, p2⟩
        refine ⟨s4, ds2, hd2, by show ds2.length ≤ _; exact l2, ?_⟩
        rw [take_more hc, List.flatMap_append]
        simpa using p2
    · rintro G2 ⟨s2, ds, hds, lds, pds⟩
      refine ⟨D, ds, _, _, _, rfl, hds, ?_, s1.trans s2⟩
      rw [TG.paired_len hrs, List.take_length] at pds
      exact pds
  · rintro σ G ⟨l, rs, v2, v3, v4, rfl, hl, hrs, s1⟩
    rw [Int.toNat_natCast] at hrs
    refine ⟨_, rfl, l, _, rfl, .inl ⟨SqL.of hl, fun p hp => ?_⟩⟩
    exact q p rs _ ((s0.trans s1).trans (new_same hp)) upd_same (tups_same hrs (new_same hp))
end
end TF51
namespace TF51
open PySem PySem.Spec L2 TG TA
open PyProof.Rows hiding St
/-! ### powers of a number, one behind the other -/
abbrev sLad : Stmt := top 19
theorem scLad : FnScope ["number", "most", "found", "_"] ["number", "most"] (defScope sLad) := ⟨rfl, rfl, rfl, by decide +kernel, rfl, by decide +kernel, by decide +kernel⟩
theorem pow_abs {n : Int} {e : Nat} (h0 : 0 ≤ n) (h : n ≤ 2 ^ e) (j : Nat) : (n ^ j).natAbs < 2 ^ (e * j + 1) := by
  have h1 : n.natAbs ≤ 2 ^ e := by
    have h3 : ((2 ^ e : Nat) : Int) = (2 : Int) ^ e := by rw [Int.natCast_pow]; rfl
    omega
  rw [Int.natAbs_pow, Nat.pow_succ, Nat.pow_mul]
  have := Nat.pow_le_pow_left h1 j
  have p : 0 < (2 ^ e) ^ j := Nat.pow_pos (Nat.pow_pos (by decide))
  omega
section
variable {P : Program} {w : World} {K : PySem.W.Frag} {mg : Str → Option Value} {base : Heap} {f : Addr} {fd : FuncData}
theorem ok_lad (F : Fun K "ladder" "ladder" sLad f fd) (T : Bn mg) : FnOk P w K mg base CX0 1 f fd ["number", "most"] spLad := by
  refine F.ok scLad (fun vs H Q E h => ?_) (fun cdv A outer s H vs Q E hr h => ?_)
  · obtain ⟨n, k, e, rfl, _⟩ := h
    rfl
  obtain ⟨n, k, e, rfl, n0, ne, ek, he, hk, q⟩ := h
  refine ⟨_, (pss_cons (ps_set (i := 2) scLad.nd rfl (.inl rfl) (pe_lst (pa_cons pe_int pa_nil)))
      (pss_cons (ps_for PassesOwn.never rfl (pi_range1 (by rfl) T.b_range (pa_cons (pv 1) pa_nil)) (pg_name (i := 3) scLad.nd rfl (.inl rfl))
        (pss_one (ps_expr (pe_bm PySem.F.plainAttrs_list PySem.F.slot_list_append PySem.F.type_list_append mt_append (pv 2) (pa_cons (pe_op op_mulW (pe_ix ix_list (pv 2) (pe_un un_neg pe_int) (fun _ _ => rfl)) (pv 0)) pa_nil)))))
      (pss_one (ps_ret (pv 2))))), ?_⟩
  refine ⟨(by show 1 ≤ sizeLine; decide), fun l hl => ?_⟩
  refine ⟨_, rfl, (k : Int), rfl, by omega, by omega, ?_⟩
  have el : ∀ j, (List.range (j + 1)).map (fun i => V.int (n ^ i)) = (List.range j).map (fun i => V.int (n ^ i)) ++ [V.int (n ^ j)] := fun j => by rw [List.range_succ, List.map_append]; rfl
  refine for_range (lo := 0) (n := (k : Int).toNat) (fun j σ G => (∃ v3, σ = [some (.int n), some (.int (k : Int)), some (.ref l), v3]) ∧ G l = some (.lst ((List.range (j + 1)).map fun i => V.int (n ^ i))) ∧ Same H G) ⟨⟨_, rfl⟩, (by rw [upd_same]; show some (HO.lst [V.int 1]) = some (HO.lst [V.int (n ^ 0)]); rw [Int.pow_zero]), new_same hl⟩ ?_ ?_
  · rintro j σ G hj ⟨⟨v3, rfl⟩, hg, sg⟩
    have hj2 : j < k := by omega
    have h1 := hg
    rw [el j] at h1
    have ej : e * j ≤ e * k := Nat.mul_le_mul_left e (Nat.le_of_lt hj2)
    refine ⟨_, rfl, .inl ⟨rfl, _, SqL.of hg⟩, _, rfl, _, rfl, l, _, _, _, rfl, rfl, SqL.of h1, atI_last _ _, _, rfl, _, _, rfl, rfl, ?_, l, _, _, rfl, rfl, hg, ?_, ⟨_, rfl⟩, ?_, same_put sg hl⟩
    · have m1 := pow_abs n0 ne j
      have m2 := pow_abs n0 ne 1
      rw [Int.pow_one] at m2
      exact wide_mul m1 m2 (by omega) (by omega) (by omega)
    · rw [List.length_map, List.length_range]
      exact small_le (by omega)
    · rw [upd_same, el (j + 1)]
      rw [Int.pow_succ]
  · rintro σ G ⟨⟨v3, rfl⟩, hg, sg⟩
    rw [Int.toNat_natCast] at hg
    exact ⟨_, rfl, q l G sg hg⟩
end
end TF51
namespace TF51
open PySem PySem.Spec L2 TG TA
open PyProof.Rows hiding St
/-! ### what is to be asked of a choice -/
abbrev sBase : Stmt := top 26
abbrev sAsked : Stmt := top 25
theorem scBase : FnScope ["first"] ["first"] (defScope sBase) := ⟨rfl, rfl, rfl, by decide +kernel, rfl, by decide +kernel, by decide +kernel⟩
theorem scAsked : FnScope ["choice", "values", "sign", "asked", "number", "step"] ["choice", "values"] (defScope sAsked) := ⟨rfl, rfl, rfl, by decide +kernel, rfl, by decide +kernel, by decide +kernel⟩
section
variable {P : Program} {w : World} {K : PySem.W.Frag} {mg : Str → Option Value} {base : Heap} {f f1 f2 : Addr} {fd fd1 fd2 : FuncData}
theorem ok_base (F : Fun K "base_of" "base_of" sBase f fd) (T : Bn mg) : FnOk P w K mg base CX0 1 f fd ["first"] spBase := by
  refine F.ok scBase (fun vs H Q E h => ?_) (fun cdv A outer s H vs Q E hr h => ?_)
  · obtain ⟨v, rfl, _⟩ := h
    rfl
  obtain ⟨v, rfl, q⟩ := h
  refine ⟨_, (pss_one (ps_ret (pe_tup (pa_cons (pe_op op_add (pv 0) pe_int) (pa_cons (pe_bits (pv 0) ) pa_nil))))), ?_⟩
  exact ⟨_, rfl, _, _, rfl, rfl, _, rfl, _, rfl, (by show 2 ≤ sizeLine; decide), fun p hp => q p _ (new_same hp) upd_same⟩
theorem ok_asked (F : Fun K "asked_of" "asked_of" sAsked f fd) (T : Bn mg) (D_base_of : Df K mg "base_of" sBase f1 fd1 ["first"]) (G_base_of : FnOk P w K mg base CX0 1 f1 fd1 ["first"] spBase)
    (D_ladder : Df K mg "ladder" sLad f2 fd2 ["number", "most"]) (G_ladder : FnOk P w K mg base CX0 1 f2 fd2 ["number", "most"] spLad) : FnOk P w K mg base CX0 2 f fd ["choice", "values"] spAsked := by
  refine F.ok scAsked (fun vs H Q E h => ?_) (fun cdv A outer s H vs Q E hr h => ?_)
  · obtain ⟨a, l, c, t, rfl, _⟩ := h
    rfl
  obtain ⟨a, l, c, t, rfl, ha, hl, h01, h3, hok, q0, q1⟩ := h
  refine ⟨_, (pss_cons (ps_if (pt_not (pt_truth (pv 1) (by intro _; rfl))) (pss_one (ps_ret (pe_callTy call_tuple_of (by rfl) T.b_tuple (by decide +kernel) (pa_cons (pe_lc (own := [("sign", 2)]) (g := (gName 2)) (by rfl) scAsked.nd (pi_tup (pv 0)) (blkOk_by (own := [("sign", 2)]) (N := ["choice", "values", "sign", "asked", "number", "step"]) (sc := defScope sAsked) (by decide +kernel)) (fun _ _ _ _ _ => (pg_name (i := 2) scAsked.nd rfl (.inl rfl))) (fun _ _ _ _ _ => pts_nil) (fun _ _ _ _ _ => (pe_op op_mul pe_int (pv 2)))) pa_nil)))) pss_nil)
      (pss_cons (ps_if (PW.pt (pw_or (pt_cmpR op_notIn_seq pe_int (pv 0) (by rfl)) (pw_or (pt_cmpR op_eq (pe_callB call_len_seq (by rfl) T.b_len (by decide +kernel) (pa_cons (pv 1) pa_nil)) pe_int (nomark _)) (pw_or1 (pt_cmpR op_lt (pe_ix ix_list (pv 1) pe_int (fun _ _ => rfl)) pe_int (nomark _)))))) (pss_one (ps_ret pe_non)) pss_nil)
      (pss_cons (ps_set (i := 3) scAsked.nd rfl (.inl rfl) (pe_lst pa_nil))
      (pss_cons (ps_asg (pe_cd D_base_of G_base_of hr (by decide) (pa_cons (pe_ix ix_list (pv 1) pe_int (fun _ _ => rfl)) pa_nil)) (pg_tup (by rfl) (pgs_cons (pg_name (i := 4) scAsked.nd rfl (.inl rfl)) (pgs_cons (pg_name (i := 5) scAsked.nd rfl (.inl rfl)) pgs_nil))))
      (pss_cons (ps_for PassesOwn.never rfl (pi_tup (pv 0)) (pg_name (i := 2) scAsked.nd rfl (.inl rfl))
        (pss_cons (ps_expr (pe_bm PySem.F.plainAttrs_list PySem.F.slot_list_append PySem.F.type_list_append mt_append (pv 3) (pa_cons (pe_op op_mulW (pv 4) (pv 2)) pa_nil)))
        (pss_one (ps_if (pt_cmpR op_eq (pv 2) pe_int (nomark _)) (pss_one (ps_set (i := 4) scAsked.nd rfl (.inl rfl) (pe_ix ix_list (pe_cd D_ladder G_ladder hr (by decide) (pa_cons (pv 4) (pa_cons (pv 5) pa_nil))) (pv 5) (fun _ _ => rfl)))) pss_nil))))
      (pss_one (ps_ret (pe_callTy call_tuple_of (by rfl) T.b_tuple (by decide +kernel) (pa_cons (pv 3) pa_nil))))))))), ?_⟩
  have c4 : c.length < 4 := by omega
  have szl : ∀ ns : List Int, ns.length ≤ 3 → (ns.map V.int).length < sizeLine := fun ns h => by rw [List.length_map]; exact small1000 (by omega)
  refine ⟨_, rfl, _, .inl ⟨_, SqL.of hl, rfl⟩, ?_⟩
  cases t with
  | nil =>
    refine iteT ⟨_, rfl, a, rfl, ⟨_, SqT.of ha⟩, fun D hD => ?_⟩
    refine lc_tup (K := K) (a := a) (xs := c.map V.int) (fun i G => Same H G ∧ G D = some (.lst (((c.map fun s => 2 * s).take i).map V.int))) ?_ ?_ ?_ ?_
    · exact ⟨new_same hD, upd_same⟩
    · rintro i G _ ⟨s1, _⟩
      exact SqT.of (s1 _ _ ha)
    · rintro i x G hx ⟨s1, hg⟩
      rw [List.getElem?_map] at hx
      obtain ⟨s, hs, rfl⟩ := Option.map_eq_some_iff.mp hx
      refine ⟨rfl, _, rfl, _, _, rfl, rfl, .inl ⟨by decide, by decide⟩, _, hg, szl _ ?_, same_put s1 hD, ?_⟩
      · rw [List.length_take, List.length_map]
        omega
      · rw [upd_same, take_more (x := 2 * s) (by rw [List.getElem?_map, hs]; rfl), List.map_append]
        rfl
    · rintro G ⟨s1, hg⟩
      rw [List.length_map, List.take_of_length_le (by rw [List.length_map]; exact Nat.le_refl _)] at hg
      exact ⟨D, _, rfl, .inl ⟨SqL.of hg, fun p hp => q1 _ p _ rfl (s1.trans (new_same hp)) upd_same⟩⟩
  | cons v t =>
  refine iteF ?_
  refine ⟨_, rfl, a, _, rfl, .inr (SqT.of ha), rfl, flat_ints c, _, rfl, ?_⟩
  rw [if_pos rfl, inV_ints]
  have two : ∀ x w : Int, t = w :: [] → askOf c (v :: t) = none := fun _ w e => by rw [e]; rfl
  by_cases h1 : (1 : Int) ∈ c
  case neg =>
    rw [decide_eq_false h1]
    refine iteT (q0 ?_ H fun _ _ e => e)
    cases t with
    | nil =>
      show (if (1 : Int) ∈ c ∧ ¬ v < 2 then _ else none) = none
      rw [if_neg fun z => h1 z.1]
    | cons w t => rfl
  rw [decide_eq_true h1]
  refine iteF ⟨_, rfl, l, _, rfl, .inl (SqL.of hl), rfl, _, rfl, ?_⟩
  cases t with
  | cons w t =>
    have e2 : t = [] := by
      have := hok.1
      exact List.eq_nil_of_length_eq_zero (by simp only [List.length_cons] at this; omega)
    subst e2
    exact iteT (q0 rfl H fun _ _ e => e)
  | nil =>
  refine iteF ⟨_, rfl, l, _, _, _, rfl, rfl, SqL.of hl, atI_nat (j := 0) rfl, _, _, rfl, rfl, _, rfl, ?_⟩
  by_cases v2 : v < 2
  · rw [decide_eq_true v2]
    refine iteT (q0 ?_ H fun _ _ e => e)
    show (if (1 : Int) ∈ c ∧ ¬ v < 2 then _ else none) = none
    rw [if_neg fun z => z.2 v2]
  rw [decide_eq_false v2]
  have eask : askOf c [v] = some (second c (v + 1) (Builtin.Int.intBits v)) := by
    show (if (1 : Int) ∈ c ∧ ¬ v < 2 then _ else none) = _
    rw [if_pos ⟨h1, v2⟩]
  obtain ⟨v0, vm⟩ := hok.2 v rfl
  obtain ⟨b1, b2, b3⟩ := bits_gt (v := v) (by omega)
  obtain ⟨u1, u2, u3⟩ := sum_01 h01
  have u4 := u3.mpr h1
  have size := size_ok h01 (by omega) (by omega) v0 vm
  obtain ⟨k, ek⟩ : ∃ k, k = Builtin.Int.intBits v := ⟨_, rfl⟩
  rw [← ek] at b1 b2 b3 size eask
  refine iteF ⟨(by show 0 ≤ sizeLine; decide), fun d hd => ⟨_, rfl, l, _, _, _, rfl, rfl, SqL.of (new_same hd _ _ hl), atI_nat (j := 0) rfl, v, rfl, fun p H1 s1 hp1 => ⟨p, _, rfl, SqT.of hp1, rfl, _, _, rfl, _, _, rfl, rfl, ?_⟩⟩⟩
  rw [← ek] at hp1
  have hd1 := s1 _ _ (upd_same (H := H) (a := d) (o := .lst []))
  have sH := (new_same (o := .lst []) hd).trans s1
  have k1 : 1 ≤ k := by omega
  refine ⟨_, rfl, a, rfl, ⟨_, SqT.of (sH _ _ ha)⟩, ?_⟩
  refine for_tup (K := K) (a := a) (xs := c.map V.int) (fun j σ G => ∃ (n : Int) (e : Nat) (w : Option V) (acc : List Int), σ = [some (.ref a), some (.ref l), w, some (.ref d), some (.int n), some (.int (k : Int))] ∧ G d = some (.lst (acc.map V.int)) ∧ acc.length = j ∧
    second c (v + 1) k = acc ++ second (c.drop j) n k ∧ 0 ≤ n ∧ n ≤ 2 ^ e ∧ e * k ^ (c.drop j).sum.toNat ≤ 4100 ∧ Same H G) ?_ ?_ ?_ ?_
  · exact ⟨v + 1, k, _, [], (by rw [ek]; rfl), hd1, rfl, rfl, by omega, b2, by rw [List.drop_zero]; exact size, sH⟩
  · rintro j σ G _ ⟨_, _, _, _, _, _, _, _, _, _, _, sg⟩
    exact SqT.of (sg _ _ ha)
  · rintro j x σ G hx ⟨n, e, w, acc, rfl, hg, la, ha2, n0, ne, es, sg⟩
    rw [List.getElem?_map] at hx
    obtain ⟨s, hs, rfl⟩ := Option.map_eq_some_iff.mp hx
    have hj := (List.getElem?_eq_some_iff.mp hs).1
    have ed : c.drop j = s :: c.drop (j + 1) := by
      rw [List.drop_eq_getElem_cons hj]
      congr 1
      exact (List.getElem?_eq_some_iff.mp hs).2
    have sub : ∀ y ∈ c.drop (j + 1), y = 0 ∨ y = 1 := fun y hy => h01 y (List.mem_of_mem_drop hy)
    obtain ⟨w1, w2, _⟩ := sum_01 sub
    rw [ed] at ha2 es
    have kp : 1 ≤ k ^ (c.drop (j + 1)).sum.toNat := Nat.one_le_pow _ _ k1
    have kk : 1 ≤ k ^ (s :: c.drop (j + 1)).sum.toNat := Nat.one_le_pow _ _ k1
    have el : e ≤ 4100 := Nat.le_trans (Nat.le_mul_of_pos_right e kk) es
    have s01 := h01 s (List.mem_of_getElem? hs)
    refine ⟨_, rfl, .inl ⟨rfl, _, SqL.of hg⟩, _, rfl, _, rfl, _, _, rfl, rfl, ?_, d, _, _, rfl, rfl, hg, szl acc (by omega), ?_⟩
    · have m1 := pow_abs n0 ne 1
      rw [Int.pow_one] at m1
      refine wide_mul m1 (b := 2) ?_ (by omega) (by omega) (by omega)
      rcases s01 with rfl | rfl <;> decide
    have hup : (L2.upd G d (.lst (acc.map V.int ++ [.int (n * s)]))) d = some (.lst ((acc ++ [n * s]).map V.int)) := by rw [upd_same, List.map_append]; rfl
    have sup : Same H (L2.upd G d (.lst (acc.map V.int ++ [.int (n * s)]))) := same_put sg hd
    generalize L2.upd G d (.lst (acc.map V.int ++ [.int (n * s)])) = G2 at hup sup ⊢
    have eacc : second c (v + 1) k = (acc ++ [n * s]) ++ second (c.drop (j + 1)) (if s = 1 then n ^ k else n) k := by
      rw [ha2, List.append_assoc]
      rfl
    refine ⟨_, rfl, rfl, _, rfl, ?_⟩
    rcases s01 with rfl | rfl
    · refine iteF ⟨n, e, _, acc ++ [n * 0], rfl, hup, by rw [List.length_append, la]; rfl, eacc, n0, ne, ?_, sup⟩
      rw [List.sum_cons, Int.zero_add] at es
      exact es
    · rw [List.sum_cons] at es
      have e2 : (1 + (c.drop (j + 1)).sum).toNat = (c.drop (j + 1)).sum.toNat + 1 := by omega
      rw [e2, Nat.pow_succ, Nat.mul_comm (k ^ _) k, ← Nat.mul_assoc] at es
      have ek4 : e * k ≤ 4100 := Nat.le_trans (Nat.le_mul_of_pos_right _ kp) es
      have k4 : k ≤ 4100 := by
        have : k * 1 ≤ k * k ^ c.sum.toNat := Nat.mul_le_mul_left k (Nat.one_le_pow _ _ k1)
        omega
      refine iteT ⟨_, rfl, _, rfl, n, k, e, rfl, n0, ne, by omega, by omega, by omega, fun q2 G3 s3 h3' => ?_⟩
      refine ⟨_, rfl, q2, _, _, _, rfl, rfl, SqL.of h3', atI_nat (j := k) (by rw [List.getElem?_map, List.getElem?_range (Nat.lt_succ_self k)]; rfl), ?_⟩
      refine ⟨n ^ k, e * k, _, acc ++ [n * 1], rfl, s3 _ _ hup, by rw [List.length_append, la]; rfl, eacc, Int.pow_nonneg n0, ?_, es, sup.trans s3⟩
      have m1 := pow_abs n0 ne k
      have p1 : 0 ≤ n ^ k := Int.pow_nonneg n0
      have p2 : (n ^ k) ≤ (2 ^ e) ^ k := by
        have h5 : ∀ (x y : Int) (i : Nat), 0 ≤ x → x ≤ y → x ^ i ≤ y ^ i := by
          intro x y i h0 hxy
          induction i with
          | zero => rw [Int.pow_zero, Int.pow_zero]; exact Int.le_refl 1
          | succ i ih => rw [Int.pow_succ, Int.pow_succ]; exact Int.mul_le_mul ih hxy h0 (Int.pow_nonneg (Int.le_trans h0 hxy))
        exact h5 _ _ k n0 ne
      rw [← Int.pow_mul] at p2
      exact p2
  · rintro σ G ⟨n, e, w, acc, rfl, hg, la, ha2, n0, ne, es, sg⟩
    rw [List.length_map] at la ha2
    rw [List.drop_length] at ha2
    have e3 : second c (v + 1) k = acc := by rw [ha2]; exact List.append_nil _
    refine ⟨_, rfl, d, _, rfl, .inl ⟨SqL.of hg, fun p2 hp2 => q1 _ p2 _ eask (sg.trans (new_same hp2)) ?_⟩⟩
    rw [upd_same, e3]
end
end TF51
namespace TF51
open PySem PySem.Spec L2 TG TA
open PyProof.Rows hiding St
/-! ### what is to be asked next -/
abbrev sNext : Stmt := top 24
abbrev sRef : Stmt := top 27
theorem scNext : FnScope ["many", "told", "at", "choice", "asked"] ["many", "told"] (defScope sNext) := ⟨rfl, rfl, rfl, by decide +kernel, rfl, by decide +kernel, by decide +kernel⟩
theorem scRef : FnScope ["choice", "values", "value", "most"] ["choice", "values", "value"] (defScope sRef) := ⟨rfl, rfl, rfl, by decide +kernel, rfl, by decide +kernel, by decide +kernel⟩
/-- the greatest first values, a tuple of the top -/
def FvAt (K : PySem.W.Frag) (aF : Addr) : Prop := ∀ H, SqT K H aF [.non, .int 1000000000000000000, .int 10000, .int 200]
section
variable {P : Program} {w : World} {K : PySem.W.Frag} {mg : Str → Option Value} {base : Heap} {f f1 f2 : Addr} {fd fd1 fd2 : FuncData}
theorem ok_next (F : Fun K "next_in" "next_in" sNext f fd) (T : Bn mg) (D_choices : Df K mg "choices" sChs f1 fd1 ["many"]) (G_choices : FnOk P w K mg base CX0 4 f1 fd1 ["many"] spChs)
    (D_asked_of : Df K mg "asked_of" sAsked f2 fd2 ["choice", "values"]) (G_asked_of : FnOk P w K mg base CX0 2 f2 fd2 ["choice", "values"] spAsked) : FnOk P w K mg base CX0 5 f fd ["many", "told"] spNext := by
  refine F.ok scNext (fun vs H Q E h => ?_) (fun cdv A outer s H vs Q E hr h => ?_)
  · obtain ⟨m, l, ts, rfl, _⟩ := h
    rfl
  obtain ⟨m, l, ts, rfl, hm, ⟨ls, hl, pls, pok⟩, q0, q1⟩ := h
  refine ⟨_, (pss_cons (ps_for PassesOwn.never rfl (pi_enumT (by rfl) T.b_enumerate (pa_cons (pe_cd D_choices G_choices hr (by decide) (pa_cons (pv 0) pa_nil)) pa_nil)) (pg_tup (by rfl) (pgs_cons (pg_name (i := 2) scNext.nd rfl (.inl rfl)) (pgs_cons (pg_name (i := 3) scNext.nd rfl (.inl rfl)) pgs_nil)))
        (pss_cons (ps_set (i := 4) scNext.nd rfl (.inl rfl) (pe_cd D_asked_of G_asked_of hr (by decide) (pa_cons (pv 3) (pa_cons (pe_ix ix_list (pv 1) (pv 2) (fun _ _ => rfl)) pa_nil))))
        (pss_one (ps_if (pt_cmpR op_notN (pv 4) pe_non (nomark _)) (pss_one (ps_ret (pe_tup (pa_cons (pv 2) (pa_cons (pv 4) pa_nil))))) pss_nil))))
      (pss_one (ps_ret (pe_tup (pa_cons pe_non (pa_cons pe_non pa_nil)))))), ?_⟩
  refine ⟨_, rfl, m, rfl, hm, fun p rs H1 s1 hp prs => ⟨p, _, rfl, SqT.of hp, ?_⟩⟩
  obtain ⟨_, _, hch⟩ := chs_ok m hm
  generalize chs m = cs at prs pok q0 q1 hch
  have lrs := TG.paired_len prs
  have lts := TG.paired_len pok
  refine for_it (walk_enumT (K := K) (a := p) (xs := rs)) (fun i σ G => Same H1 G ∧ (∃ v2 v3 v4, σ = [some (.int (m : Int)), some (.ref l), v2, v3, v4]) ∧ nextIn cs ts = (nextIn (cs.drop i) (ts.drop i)).map fun x => (x.1 + i, x.2)) ?_ ?_ ?_ ?_
  · refine ⟨fun _ _ e => e, ⟨_, _, _, rfl⟩, ?_⟩
    rw [List.drop_zero, List.drop_zero]
    cases nextIn cs ts <;> rfl
  · rintro i σ G _ ⟨s2, _⟩
    exact SqT.of (s2 _ _ hp)
  · rintro i x σ G G2 hi ⟨s2, ⟨v2, v3, v4, rfl⟩, en⟩ ⟨t', x', y', rfl, ht', rfl, e1, e2⟩
    cases Option.some.inj e1
    obtain ⟨c, hc, a, rfl, hac⟩ := TG.paired_get prs e2
    obtain ⟨okc1, okc2⟩ := hch c (List.mem_of_getElem? hc)
    obtain ⟨t, ht, okt⟩ := TG.paired_get pok hc
    obtain ⟨lv, hlv, la, rfl, hla⟩ := paired_of pls ht
    have s3 := s2.trans (new_same (o := .tup [.int (i : Nat), .ref a]) ht')
    have s03 := s1.trans s3
    refine ⟨t', _, rfl, SqT.of upd_same, rfl, _, _, rfl, _, _, rfl, rfl, ?_⟩
    generalize L2.upd G t' (.tup [.int (i : Nat), .ref a]) = G3 at s3 s03 ⊢
    rw [nextIn_step hc ht] at en
    refine ⟨_, rfl, _, rfl, _, rfl, l, _, _, _, rfl, rfl, SqL.of (s03 _ _ hl), atI_nat (j := i) hlv, a, la, c, t, rfl, s3 _ _ hac, s03 _ _ hla, okc2, by omega, okt, fun e G4 s4 => ⟨_, rfl, rfl, _, rfl, iteF ⟨s3.trans s4, ⟨_, _, _, rfl⟩, ?_⟩⟩, fun r u G4 e s4 hu => ⟨_, rfl, rfl, _, rfl, iteT ⟨_, rfl, _, rfl, (by show 2 ≤ sizeLine; decide), fun z hz => ?_⟩⟩⟩
    · rw [e] at en
      rw [en]
      cases nextIn (cs.drop (i + 1)) (ts.drop (i + 1)) with
      | none => rfl
      | some x => show some (x.1 + 1 + i, x.2) = some (x.1 + (i + 1), x.2); rw [Nat.add_assoc, Nat.add_comm 1 i]
    · rw [e] at en
      exact q1 (0 + i) r z u _ en ((s03.trans s4).trans (new_same hz)) (by rw [upd_same, Nat.zero_add]) (new_same hz _ _ hu)
  · rintro σ G ⟨s2, ⟨v2, v3, v4, rfl⟩, en⟩
    refine ⟨(by show 2 ≤ sizeLine; decide), fun z hz => q0 ?_ z _ ((s1.trans s2).trans (new_same hz)) upd_same⟩
    rw [en, lrs, List.drop_length]
    rfl
theorem ok_ref {aF : Addr} (F : Fun K "refuse_value" "refuse_value" sRef f fd) (T : Bn mg) (gF : mg "FIRST_VALUES" = some (.ref aF)) (VF : FvAt K aF) : FnOk P w K mg base CX0 1 f fd ["choice", "values", "value"] spRefuse := by
  refine F.ok scRef (fun vs H Q E h => ?_) (fun cdv A outer s H vs Q E hr h => ?_)
  · obtain ⟨a, l, c, t, x, rfl, _⟩ := h
    rfl
  obtain ⟨a, l, c, t, x, rfl, ha, hl, h01, h3, ht, hok, q⟩ := h
  obtain ⟨u1, u2, _⟩ := sum_01 h01
  have e : c.sum = ((c.sum.toNat : Nat) : Int) := by omega
  have r4 : c.sum.toNat < 4 := by omega
  refine ⟨_, (pss_cons (ps_set (i := 3) scRef.nd rfl (.inl rfl) (pe_ix ix_tup (pe_glob (v := .ref aF) rfl gF rfl) (pe_callB (cr_sumT rfl) (by rfl) T.b_sum (by decide +kernel) (pa_cons (pv 0) pa_nil)) (fun _ _ => rfl)))
      (pss_one (ps_if (PW.pt (pw_and (pt_cmpR op_notN (pv 3) pe_non (nomark _)) (pw_and (pt_not (pt_truth (pv 1) (by intro _; rfl))) (pw_and1 (pt_cmpR op_gt (pv 2) (pv 3) (nomark _)))))) (pss_one ps_never) pss_nil))), ?_⟩
  refine ⟨_, rfl, a, c, rfl, SqT.of ha, ?_⟩
  have look : ∀ v, ([.non, .int 1000000000000000000, .int 10000, .int 200] : List V)[c.sum.toNat]? = some v → atI ([.non, .int 1000000000000000000, .int 10000, .int 200] : List V) c.sum = some v := fun v h => by rw [e]; exact atI_nat h
  unfold okF frst at hok
  generalize hn : c.sum.toNat = n at look hok r4
  match n, r4, look, hok with
  | 0, _, look, hok => exact ⟨aF, _, _, _, rfl, rfl, VF H, look .non rfl, _, rfl, rfl, _, rfl, iteF q⟩
  | 1, _, look, hok =>
    refine ⟨aF, _, _, _, rfl, rfl, VF H, look _ rfl, _, rfl, rfl, _, rfl, iteT ⟨_, rfl, _, .inl ⟨_, SqL.of hl, rfl⟩, ?_⟩⟩
    cases t with
    | nil => exact iteT ⟨_, rfl, _, rfl, _, _, rfl, rfl, _, rfl, by rw [decide_eq_false (by have := of_decide_eq_true hok; omega)]; exact iteF q⟩
    | cons y t => exact iteF q
  | 2, _, look, hok =>
    refine ⟨aF, _, _, _, rfl, rfl, VF H, look _ rfl, _, rfl, rfl, _, rfl, iteT ⟨_, rfl, _, .inl ⟨_, SqL.of hl, rfl⟩, ?_⟩⟩
    cases t with
    | nil => exact iteT ⟨_, rfl, _, rfl, _, _, rfl, rfl, _, rfl, by rw [decide_eq_false (by have := of_decide_eq_true hok; omega)]; exact iteF q⟩
    | cons y t => exact iteF q
  | 3, _, look, hok =>
    refine ⟨aF, _, _, _, rfl, rfl, VF H, look _ rfl, _, rfl, rfl, _, rfl, iteT ⟨_, rfl, _, .inl ⟨_, SqL.of hl, rfl⟩, ?_⟩⟩
    cases t with
    | nil => exact iteT ⟨_, rfl, _, rfl, _, _, rfl, rfl, _, rfl, by rw [decide_eq_false (by have := of_decide_eq_true hok; omega)]; exact iteF q⟩
    | cons y t => exact iteF q
end
end TF51
namespace TF51
open PySem PySem.Spec L2 TG TA
open PyProof.Rows hiding St
/-! ### answers, and what they tell -/
abbrev sIsA : Stmt := top 6
abbrev sAreA : Stmt := top 5
abbrev sTold : Stmt := top 23
theorem scIsA : FnScope ["many", "value", "numbers", "worth"] ["many", "value"] (defScope sIsA) := ⟨rfl, rfl, rfl, by decide +kernel, rfl, by decide +kernel, by decide +kernel⟩
theorem scAreA : FnScope ["many", "value", "pair"] ["many", "value"] (defScope sAreA) := ⟨rfl, rfl, rfl, by decide +kernel, rfl, by decide +kernel, by decide +kernel⟩
theorem scTold : FnScope ["many", "answers", "told", "_", "numbers", "value", "at", "asked"] ["many", "answers"] (defScope sTold) := ⟨rfl, rfl, rfl, by decide +kernel, rfl, by decide +kernel, by decide +kernel⟩
section
variable {P : Program} {w : World} {K : PySem.W.Frag} {mg : Str → Option Value} {base : Heap} {f f1 f2 f3 f4 f5 : Addr} {fd fd1 fd2 fd3 fd4 fd5 : FuncData}
theorem ok_isa (F : Fun K "is_answer" "is_answer" sIsA f fd) (T : Bn mg) (D_are_numbers : Df K mg "are_numbers" sNums f1 fd1 ["value"]) (G_are_numbers : FnOk P w K mg base CX0 3 f1 fd1 ["value"] (spNums K))
    (D_is_within : Df K mg "is_within" sWithin f2 fd2 ["value", "least", "most"]) (G_is_within : FnOk P w K mg base CX0 2 f2 fd2 ["value", "least", "most"] (spWithin K)) : FnOk P w K mg base CX0 4 f fd ["many", "value"] (spIsAns K) := by
  refine F.ok scIsA (fun vs H Q E h => ?_) (fun cdv A outer s H vs Q E hr h => ?_)
  · obtain ⟨m, v, e, rfl, _⟩ := h
    rfl
  obtain ⟨m, v, ⟨ns, x⟩, rfl, ⟨a, u, rfl, hk, b, rfl, hb⟩, hm, hl, h0, hx, q⟩ := h
  have hv : ∃ n : String, HasTy K H (.ref a) n ∧ (n == "list" || n == "tuple") = true := by
    rcases hk with h | h
    · exact ⟨"list", HasTy.lst h, rfl⟩
    · exact ⟨"tuple", HasTy.tup h, rfl⟩
  obtain ⟨n, hv, hn⟩ := hv
  have hl : ns.length = m := hl
  refine ⟨_, (pss_cons (ps_if (PW.pt (pw_or (pt_not (pt_val (pe_callB call_isiT (by rfl) T.b_isinstance (by decide +kernel) (pa_cons (pv 1) (pa_cons (pe_tup (pa_cons (pe_bltn (v := .ty "list") (u := .type "list") (by rfl) T.b_list (by decide +kernel) rfl) (pa_cons (pe_bltn (v := .ty "tuple") (u := .type "tuple") (by rfl) T.b_tuple (by decide +kernel) rfl) pa_nil))) pa_nil))))) (pw_or1 (pt_cmpR op_ne (pe_callB call_len_seq (by rfl) T.b_len (by decide +kernel) (pa_cons (pv 1) pa_nil)) pe_int (nomark _))))) (pss_one (ps_ret pe_bl)) pss_nil)
      (pss_cons (ps_asg (pv 1) (pg_or2 (pg_tup (by rfl) (pgs_cons (pg_name (i := 2) scIsA.nd rfl (.inl rfl)) (pgs_cons (pg_name (i := 3) scIsA.nd rfl (.inl rfl)) pgs_nil))) (pg_lst (by rfl) (pgs_cons (pg_name (i := 2) scIsA.nd rfl (.inl rfl)) (pgs_cons (pg_name (i := 3) scIsA.nd rfl (.inl rfl)) pgs_nil)))))
      (pss_one (ps_ret (pe_and (pe_cd D_are_numbers G_are_numbers hr (by decide) (pa_cons (pv 2) pa_nil)) (pe_and (pe_cmpR op_eq (pe_callB call_len_seq (by rfl) T.b_len (by decide +kernel) (pa_cons (pv 2) pa_nil)) (pv 0) (nomark _)) (pe_one (pe_cd D_is_within G_is_within hr (by decide) (pa_cons (pv 3) (pa_cons pe_int (pa_cons pe_non pa_nil))))))))))), ?_⟩
  refine ⟨_, rfl, (by show 2 ≤ sizeLine; decide), fun tp htp => ?_⟩
  have s1 := new_same (o := .tup [.ty "list", .ty "tuple"]) htp
  refine ⟨.ref a, tp, _, _, [.type "list", .type "tuple"], _, rfl, upd_same, .cons (.ty _) (.cons (.ty _) .nil), tyx_same hv.1 s1, kit_lt hv.2, _, rfl, ?_⟩
  rw [hn]
  refine iteF ?_
  have hk1 := hk.imp (s1 _ _) (s1 _ _)
  have hb1 := hb.imp (s1 _ _) (s1 _ _)
  generalize L2.upd H tp (.tup [.ty "list", .ty "tuple"]) = H1 at s1 hk1 hb1 ⊢
  refine ⟨_, rfl, a, _, rfl, hk1.imp SqL.of SqT.of, rfl, _, rfl, iteF ?_⟩
  have rest : (tAndV (tCall (spNums K) [] E0 (tCons (tVar 2) tNil)) (tAndV (tOp rEq (tCB (fun xs H_1 Q => ∃ p ys, xs = [V.ref p] ∧ (SqL K H_1 p ys ∨ SqT K H_1 p ys) ∧ Q (V.int (ys.length : Nat)) H_1) (tCons (tVar 2) tNil)) (tVar 0)) (tCall (spWithin K) [] E0 (tCons (tVar 3) (tCons (tC (V.int 0)) (tCons (tC V.non) tNil)))))) [some (.int (m : Int)), some (.ref a), some (.ref b), some (.int x)] H1 Q := by
    have hnb : ∃ n2 : String, HasTy K H1 (.ref b) n2 ∧ ((n2 = "list" ∧ H1 b = some (.lst (ns.map V.int))) ∨ (n2 = "tuple" ∧ H1 b = some (.tup (ns.map V.int)))) := by
      rcases hb1 with h | h
      · exact ⟨_, HasTy.lst h, .inl ⟨rfl, h⟩⟩
      · exact ⟨_, HasTy.tup h, .inr ⟨rfl, h⟩⟩
    obtain ⟨n2, hn2, hor⟩ := hnb
    refine ⟨_, rfl, _, n2, rfl, hn2, .inr ⟨b, ns.map V.int, rfl, hor, fun y hy => ?_, by rw [List.length_map]; show ns.length ≤ _; omega, fun H3 s3 => ?_⟩⟩
    · obtain ⟨i, _, rfl⟩ := List.mem_map.mp hy
      exact ⟨_, HasTy.int i⟩
    have e1 : (ns.map V.int).all numV = true := by
      rw [List.all_map]
      refine List.all_eq_true.mpr fun i hi => ?_
      show (decide ((0 : Int) ≤ i) && true) = true
      rw [decide_eq_true (h0 i hi)]
      rfl
    rw [e1]
    have hb3 := hb1.imp (s3 _ _) (s3 _ _)
    refine ⟨_, rfl, iteT ⟨_, rfl, b, _, rfl, hb3.imp SqL.of SqT.of, _, rfl, rfl, _, rfl, ?_⟩⟩
    rw [List.length_map, hl, decide_eq_true rfl]
    refine iteT ⟨_, rfl, _, _, _, _, rfl, HasTy.int _, .inr ⟨_, rfl⟩, .inl rfl, ?_⟩
    rw [show withinV (.int x) (.int 0) .non = true from by show (decide ((0 : Int) ≤ x) && true) = true; rw [decide_eq_true hx]; rfl]
    exact q _ (s1.trans s3)
  rcases hk1 with h | h
  · exact ⟨_, rfl, .inr ⟨a, _, rfl, SqL.of h, rfl, _, _, rfl, _, _, rfl, rfl, rest⟩⟩
  · exact ⟨_, rfl, .inl ⟨a, _, rfl, SqT.of h, rfl, _, _, rfl, _, _, rfl, rfl, rest⟩⟩
theorem ok_area (F : Fun K "are_answers" "are_answers" sAreA f fd) (T : Bn mg) (D_is_answer : Df K mg "is_answer" sIsA f1 fd1 ["many", "value"]) (G_is_answer : FnOk P w K mg base CX0 4 f1 fd1 ["many", "value"] (spIsAns K)) : FnOk P w K mg base CX0 5 f fd ["many", "value"] (spAreAns K) := by
  refine F.ok scAreA (fun vs H Q E h => ?_) (fun cdv A outer s H vs Q E hr h => ?_)
  · obtain ⟨m, v, as, rfl, _⟩ := h
    rfl
  obtain ⟨m, v, as, rfl, ⟨a, vs, rfl, hk, pas⟩, hm, hok, hlen, q⟩ := h
  have lv := TG.paired_len pas
  have hv : ∃ n : String, HasTy K H (.ref a) n ∧ (n == "list" || n == "tuple") = true := by
    rcases hk with h | h
    · exact ⟨"list", HasTy.lst h, rfl⟩
    · exact ⟨"tuple", HasTy.tup h, rfl⟩
  obtain ⟨n, hv, hn⟩ := hv
  have step : ∀ (i : Nat) (x : V) (G : Hp), vs[i]? = some x → Same H G → ∃ e, AnsAt G x e ∧ e.1.length = m ∧ (∀ k ∈ e.1, 0 ≤ k) ∧ 0 ≤ e.2 := by
    intro i x G hx s
    obtain ⟨e, he, r⟩ := TG.paired_get pas hx
    obtain ⟨o1, o2, o3⟩ := hok e (List.mem_of_getElem? he)
    exact ⟨e, r.same s, o1, o2, o3⟩
  have two : ∃ (J : It) (GG : Hp → Prop), Walk J vs.length GG (YAt vs) ∧ (∀ G, Same H G → GG G) ∧ ((H a = some (.lst vs) ∧ J = Itl K a) ∨ (H a = some (.tup vs) ∧ J = Itt K a)) := by
    rcases hk with h | h
    · exact ⟨_, _, walk_list, fun G s => SqL.of (s _ _ h), .inl ⟨h, rfl⟩⟩
    · exact ⟨_, _, walk_tup, fun G s => SqT.of (s _ _ h), .inr ⟨h, rfl⟩⟩
  obtain ⟨J, GG, wk, hGG, hJ⟩ := two
  have key : ∀ (H1 : Hp), Same H H1 → ∀ D, H1 D = none → ∃ W : Nat → Nat → Hp → Prop, (∃ m', W 0 m' (L2.upd H1 D (.lst []))) ∧ ∀ i m' H2, W i m' H2 →
      (J.stop i H2 ∧ (∃ xs, SqL K H2 D xs ∧ xs = (List.replicate vs.length (V.bl true)) ∧ Same H H2)) ∨ (J.go i H2 ∧ ∃ Nx : Hp → Prop, (∀ H3, Nx H3 → ∃ m2, m2 < m' ∧ W (i + 1) m2 H3) ∧ ∀ x H3, J.yld i H2 x H3 → gName 2 x (wipe [some (.int (m : Int)), some (.ref a), none] [2]) H3 fun σ2 H4 => wipe σ2 [2] = wipe [some (.int (m : Int)), some (.ref a), none] [2] ∧ tYes σ2 H4 fun b H5 =>
        if b = true then tCall (spIsAns K) [] E0 (tCons (tVar 0) (tCons (tVar 2) tNil)) σ2 H5 fun y H6 => ∃ acc, H6 D = some (.lst acc) ∧ acc.length < sizeLine ∧ Nx (L2.upd H6 D (.lst (acc ++ [y]))) else Nx H5) := by
    intro H1 s1 D hD
    refine lc_it wk (fun i G => Same H G ∧ G D = some (.lst (List.replicate i (V.bl true)))) ?_ (fun i G _ h => hGG G h.1) ?_ ?_
    · exact ⟨s1.trans (new_same hD), upd_same⟩
    · rintro i x _ G hi ⟨s2, hg⟩ ⟨rfl, hx⟩
      obtain ⟨e, r, o1, o2, o3⟩ := step i x G hx s2
      refine ⟨rfl, _, rfl, _, rfl, m, x, e, rfl, r, hm, o1, o2, o3, fun G3 s3 => ⟨_, s3 _ _ hg, ?_, same_put (s2.trans s3) (s1.free hD), ?_⟩⟩
      · rw [List.length_replicate]
        exact small1000 (by omega)
      · rw [upd_same, List.replicate_succ']
    · rintro G ⟨s2, hg⟩
      exact ⟨_, SqL.of hg, rfl, s2⟩
  rcases hJ with ⟨ha, rfl⟩ | ⟨ha, rfl⟩
  · refine ⟨_, (pss_cons (ps_if (pt_not (pt_val (pe_callB call_isiT (by rfl) T.b_isinstance (by decide +kernel) (pa_cons (pv 1) (pa_cons (pe_tup (pa_cons (pe_bltn (v := .ty "list") (u := .type "list") (by rfl) T.b_list (by decide +kernel) rfl) (pa_cons (pe_bltn (v := .ty "tuple") (u := .type "tuple") (by rfl) T.b_tuple (by decide +kernel) rfl) pa_nil))) pa_nil))))) (pss_one (ps_ret pe_bl)) pss_nil)
      (pss_one (ps_ret (pe_callB (cr_all rfl) (by rfl) T.b_all (by decide +kernel) (pa_cons (pe_lc (own := [("pair", 2)]) (g := (gName 2)) (by rfl) scAreA.nd (pi_list (pv 1)) (blkOk_by (own := [("pair", 2)]) (N := ["many", "value", "pair"]) (sc := defScope sAreA) (by decide +kernel)) (fun _ _ _ _ _ => (pg_name (i := 2) scAreA.nd rfl (.inl rfl))) (fun _ _ _ _ _ => pts_nil) (fun _ _ _ _ _ => (pe_cd D_is_answer G_is_answer hr (by decide) (pa_cons (pv 0) (pa_cons (pv 2) pa_nil))))) pa_nil))))), ?_⟩
    refine ⟨_, rfl, (by show 2 ≤ sizeLine; decide), fun tp htp => ?_⟩
    have s1 := new_same (o := .tup [.ty "list", .ty "tuple"]) htp
    refine ⟨.ref a, tp, _, _, [.type "list", .type "tuple"], _, rfl, upd_same, .cons (.ty _) (.cons (.ty _) .nil), tyx_same hv.1 s1, kit_lt hv.2, _, rfl, ?_⟩
    rw [hn]
    refine iteF ⟨_, rfl, a, rfl, ⟨_, SqL.of (s1 _ _ ha)⟩, fun D hD => ?_⟩
    obtain ⟨W, w0, ww⟩ := key _ s1 D hD
    refine ⟨W, w0, fun i m' H2 hw => (ww i m' H2 hw).imp (fun ⟨st, xs, hx, ex, s2⟩ => ⟨st, D, List.replicate vs.length true, rfl, ?_, ?_⟩) id⟩
    · rw [List.map_replicate, ← ex]
      exact hx
    · rw [show (List.replicate vs.length true).all id = true from List.all_eq_true.mpr fun b hb => by rw [List.eq_of_mem_replicate hb]; rfl]
      exact q _ s2
  · refine ⟨_, (pss_cons (ps_if (pt_not (pt_val (pe_callB call_isiT (by rfl) T.b_isinstance (by decide +kernel) (pa_cons (pv 1) (pa_cons (pe_tup (pa_cons (pe_bltn (v := .ty "list") (u := .type "list") (by rfl) T.b_list (by decide +kernel) rfl) (pa_cons (pe_bltn (v := .ty "tuple") (u := .type "tuple") (by rfl) T.b_tuple (by decide +kernel) rfl) pa_nil))) pa_nil))))) (pss_one (ps_ret pe_bl)) pss_nil)
      (pss_one (ps_ret (pe_callB (cr_all rfl) (by rfl) T.b_all (by decide +kernel) (pa_cons (pe_lc (own := [("pair", 2)]) (g := (gName 2)) (by rfl) scAreA.nd (pi_tup (pv 1)) (blkOk_by (own := [("pair", 2)]) (N := ["many", "value", "pair"]) (sc := defScope sAreA) (by decide +kernel)) (fun _ _ _ _ _ => (pg_name (i := 2) scAreA.nd rfl (.inl rfl))) (fun _ _ _ _ _ => pts_nil) (fun _ _ _ _ _ => (pe_cd D_is_answer G_is_answer hr (by decide) (pa_cons (pv 0) (pa_cons (pv 2) pa_nil))))) pa_nil))))), ?_⟩
    refine ⟨_, rfl, (by show 2 ≤ sizeLine; decide), fun tp htp => ?_⟩
    have s1 := new_same (o := .tup [.ty "list", .ty "tuple"]) htp
    refine ⟨.ref a, tp, _, _, [.type "list", .type "tuple"], _, rfl, upd_same, .cons (.ty _) (.cons (.ty _) .nil), tyx_same hv.1 s1, kit_lt hv.2, _, rfl, ?_⟩
    rw [hn]
    refine iteF ⟨_, rfl, a, rfl, ⟨_, SqT.of (s1 _ _ ha)⟩, fun D hD => ?_⟩
    obtain ⟨W, w0, ww⟩ := key _ s1 D hD
    refine ⟨W, w0, fun i m' H2 hw => (ww i m' H2 hw).imp (fun ⟨st, xs, hx, ex, s2⟩ => ⟨st, D, List.replicate vs.length true, rfl, ?_, ?_⟩) id⟩
    · rw [List.map_replicate, ← ex]
      exact hx
    · rw [show (List.replicate vs.length true).all id = true from List.all_eq_true.mpr fun b hb => by rw [List.eq_of_mem_replicate hb]; rfl]
      exact q _ s2
end
end TF51
namespace TF51
open PySem PySem.Spec L2 TG TA
open PyProof.Rows hiding St
/-! ### the values told, and the next ask -/
abbrev sNA : Stmt := top 22
theorem scNA : FnScope ["many", "answers"] ["many", "answers"] (defScope sNA) := ⟨rfl, rfl, rfl, by decide +kernel, rfl, by decide +kernel, by decide +kernel⟩
section
variable {P : Program} {w : World} {K : PySem.W.Frag} {mg : Str → Option Value} {base : Heap} {f f1 f2 f3 f4 f5 : Addr} {fd fd1 fd2 fd3 fd4 fd5 : FuncData}
theorem ok_told (F : Fun K "values_told" "values_told" sTold f fd) (T : Bn mg) (D_check_many : Df K mg "check_many" sCM f1 fd1 ["many"]) (G_check_many : FnOk P w K mg base CX0 3 f1 fd1 ["many"] spCM)
    (D_are_answers : Df K mg "are_answers" sAreA f2 fd2 ["many", "value"]) (G_are_answers : FnOk P w K mg base CX0 5 f2 fd2 ["many", "value"] (spAreAns K))
    (D_choices : Df K mg "choices" sChs f3 fd3 ["many"]) (G_choices : FnOk P w K mg base CX0 4 f3 fd3 ["many"] spChs)
    (D_next_in : Df K mg "next_in" sNext f4 fd4 ["many", "told"]) (G_next_in : FnOk P w K mg base CX0 5 f4 fd4 ["many", "told"] spNext)
    (D_refuse_value : Df K mg "refuse_value" sRef f5 fd5 ["choice", "values", "value"]) (G_refuse_value : FnOk P w K mg base CX0 1 f5 fd5 ["choice", "values", "value"] spRefuse) : FnOk P w K mg base CX0 6 f fd ["many", "answers"] (spTold K) := by
  refine F.ok scTold (fun vs H Q E h => ?_) (fun cdv A outer s H vs Q E hr h => ?_)
  · obtain ⟨m, v, as, ts, rfl, _⟩ := h
    rfl
  obtain ⟨m, v, as, tsF, rfl, ⟨a, vs, rfl, hk, pas⟩, hm, hok, hlen, hrun, q⟩ := h
  have lv := TG.paired_len pas
  obtain ⟨c8, c1, hch⟩ := chs_ok m hm
  refine ⟨_, (pss_cons (ps_expr (pe_cd D_check_many G_check_many hr (by decide) (pa_cons (pv 0) pa_nil)))
      (pss_cons (ps_if (pt_not (pt_val (pe_cd D_are_answers G_are_answers hr (by decide) (pa_cons (pv 0) (pa_cons (pv 1) pa_nil))))) (pss_one ps_never) pss_nil)
      (pss_cons (ps_setLc (i := 2) (own := [("_", 3)]) (g := (gName 3)) rfl scTold.nd rfl rfl (sw_true rfl rfl rfl (by decide +kernel)) (pi_tup (pe_cd D_choices G_choices hr (by decide) (pa_cons (pv 0) pa_nil))) (blkOk_by (own := [("_", 3)]) (N := ["many", "answers", "told", "_", "numbers", "value", "at", "asked"]) (sc := defScope sTold) (by decide +kernel)) (fun _ _ _ _ _ => (pg_name (i := 3) scTold.nd rfl (.inl rfl))) (fun _ _ _ _ _ => pts_nil) (fun _ _ _ _ _ => (pe_lst pa_nil)))
      (pss_cons (ps_for PassesOwn.never rfl (pi_seq (pv 1)) (pg_or2 (pg_tup (by rfl) (pgs_cons (pg_name (i := 4) scTold.nd rfl (.inl rfl)) (pgs_cons (pg_name (i := 5) scTold.nd rfl (.inl rfl)) pgs_nil))) (pg_lst (by rfl) (pgs_cons (pg_name (i := 4) scTold.nd rfl (.inl rfl)) (pgs_cons (pg_name (i := 5) scTold.nd rfl (.inl rfl)) pgs_nil))))
        (pss_cons (ps_asg (pe_cd D_next_in G_next_in hr (by decide) (pa_cons (pv 0) (pa_cons (pv 2) pa_nil))) (pg_tup (by rfl) (pgs_cons (pg_name (i := 6) scTold.nd rfl (.inl rfl)) (pgs_cons (pg_name (i := 7) scTold.nd rfl (.inl rfl)) pgs_nil))))
        (pss_cons (ps_if (pt_cmpR (op_neD hr.units) (pv 7) (pe_callTy call_tupX (by rfl) T.b_tuple (by decide +kernel) (pa_cons (pv 4) pa_nil)) (nomark _)) (pss_one ps_never) pss_nil)
        (pss_cons (ps_expr (pe_cd D_refuse_value G_refuse_value hr (by decide) (pa_cons (pe_ix ix_tup (pe_cd D_choices G_choices hr (by decide) (pa_cons (pv 0) pa_nil)) (pv 6) (fun _ _ => rfl)) (pa_cons (pe_ix ix_list (pv 2) (pv 6) (fun _ _ => rfl)) (pa_cons (pv 5) pa_nil)))))
        (pss_one (ps_expr (pe_bm PySem.F.plainAttrs_list PySem.F.slot_list_append PySem.F.type_list_append mt_append (pe_ix ix_list (pv 2) (pv 6) (fun _ _ => rfl)) (pa_cons (pv 5) pa_nil))))))))
      (pss_one (ps_ret (pv 2))))))), ?_⟩
  refine ⟨_, rfl, m, rfl, hm, _, rfl, _, rfl, m, _, as, rfl, ⟨a, vs, rfl, hk, pas⟩, hm, hok, hlen, fun H1 s1 => ⟨_, rfl, iteF ?_⟩⟩
  refine ⟨_, rfl, m, rfl, hm, fun p rs H2 s2 hp prs => ⟨p, rfl, ⟨_, SqT.of hp⟩, fun D hD => ?_⟩⟩
  have lrs := TG.paired_len prs
  have s02 := s1.trans s2
  refine lc_tup (K := K) (a := p) (xs := rs) (fun i G => Same H2 G ∧ ∃ ads : List Addr, G D = some (.lst (ads.map V.ref)) ∧ ads.length = i ∧ ads.Nodup ∧ ∀ z ∈ ads, z ≠ D ∧ G z = some (.lst []) ∧ H2 z = none) ?_ ?_ ?_ ?_
  · exact ⟨new_same hD, [], upd_same, rfl, List.nodup_nil, fun z hz => absurd hz List.not_mem_nil⟩
  · rintro i G _ ⟨s3, _⟩
    exact SqT.of (s3 _ _ hp)
  · rintro i x G hx ⟨s3, ads, hG, la, nd, hz⟩
    have hi := (List.getElem?_eq_some_iff.mp hx).1
    refine ⟨rfl, (by show 0 ≤ sizeLine; decide), fun z hz2 => ⟨ads.map V.ref, ?_, ?_, ?_, ads ++ [z], ?_, ?_, ?_, fun y hy => ?_⟩⟩
    · exact new_same hz2 _ _ hG
    · rw [List.length_map]
      exact small1000 (by omega)
    · exact same_put (s3.trans (new_same hz2)) hD
    · rw [upd_same, List.map_append]
      rfl
    · rw [List.length_append, la]
      rfl
    · refine List.nodup_append.mpr ⟨nd, List.nodup_cons.mpr ⟨List.not_mem_nil, List.nodup_nil⟩, fun y hy y2 hy2 e => ?_⟩
      cases List.mem_singleton.mp hy2
      have := (hz y hy).2.1
      rw [e, hz2] at this
      cases this
    · rcases List.mem_append.mp hy with hy | hy
      · obtain ⟨n1, n2, n3⟩ := hz y hy
        refine ⟨n1, ?_, n3⟩
        rw [upd_ne n1]
        exact new_same hz2 _ _ n2
      · cases List.mem_singleton.mp hy
        have n1 : z ≠ D := Ne.symm (ne_of_none hG hz2)
        refine ⟨n1, by rw [upd_ne n1, upd_same], ?_⟩
        cases e : H2 z with
        | none => rfl
        | some o => exact absurd ((s3 _ _ e).symm.trans hz2) (fun c => nomatch c)
  rintro G0 ⟨s3, ads, hG0, la, nd, hz⟩
  have s03 := s02.trans s3
  have zD : ∀ z ∈ ads, z ≠ D := fun z h => (hz z h).1
  have zH : ∀ z ∈ ads, H z = none := fun z h => by
    cases e : H z with
    | none => rfl
    | some o => exact absurd ((s02 _ _ e).symm.trans (hz z h).2.2) (fun c => nomatch c)
  have hDH : H D = none := by
    cases e : H D with
    | none => rfl
    | some o => exact absurd ((s02 _ _ e).symm.trans hD) (fun c => nomatch c)
  refine ⟨_, rfl, a, vs, rfl, SqX.of (hk.imp (s03 _ _) (s03 _ _)), fun J GG wk hGG => ?_⟩
  show ∃ W : Nat → Nat → L2.St → Hp → Prop, _
  refine for_it wk (fun i σ G => ∃ (ts : List (List Int)) (v3 v4 v5 v6 v7 : Option V), σ = [some (.int (m : Int)), some (.ref a), some (.ref D), v3, v4, v5, v6, v7] ∧ Same H G ∧ G D = some (.lst (ads.map V.ref)) ∧ Paired (LAt G) ads ts ∧ Paired OkT (chs m) ts ∧ run (chs m) ts (as.drop i) = some tsF) ?_ ?_ ?_ ?_
  · refine ⟨(chs m).map fun _ => [], _, _, _, _, _, rfl, s03, hG0, lats_const (by omega) fun z h => (hz z h).2.1, okT_const _, ?_⟩
    rw [List.drop_zero]
    exact hrun
  · rintro i σ G _ ⟨_, _, _, _, _, _, _, sg, _⟩
    exact hGG G (stays hk s03 sg)
  · rintro i x σ _ G hi ⟨ts, v3, v4, v5, v6, v7, rfl, sg, hgD, plt, pok, hr2⟩ ⟨rfl, hx⟩
    obtain ⟨⟨ns, xv⟩, he, rr⟩ := TG.paired_get pas hx
    obtain ⟨o1, o2, o3⟩ := hok _ (List.mem_of_getElem? he)
    obtain ⟨ad, u, rfl, hu, b, rfl, hb⟩ := rr.same sg
    rw [drop_at he] at hr2
    unfold TG.run at hr2
    cases en : nextIn (chs m) ts with
    | none => rw [en] at hr2; cases hr2
    | some ja =>
    obtain ⟨j, r⟩ := ja
    rw [en] at hr2
    obtain ⟨c, t, hc, ht, hask⟩ := nextIn_some en
    dsimp only at hr2
    rw [List.getD_eq_getElem?_getD, List.getD_eq_getElem?_getD, hc, ht, Option.getD_some, Option.getD_some] at hr2
    by_cases cond : r = ns ∧ okF c t xv = true
    case neg => rw [if_neg cond] at hr2; cases hr2
    obtain ⟨er, okf⟩ := cond
    subst er
    rw [if_pos ⟨rfl, okf⟩] at hr2
    obtain ⟨okc1, okc2⟩ := hch c (List.mem_of_getElem? hc)
    obtain ⟨t2, ht2, okt⟩ := TG.paired_get pok hc
    cases Option.some.inj (ht.symm.trans ht2)
    obtain ⟨la2, hla, hlat⟩ := paired_of plt ht
    refine apart2 hu rfl ⟨_, _, rfl, _, _, rfl, rfl, ?_⟩
    refine ⟨_, rfl, _, rfl, m, D, ts, rfl, hm, ⟨_, hgD, lats_told plt, pok⟩, fun e => (nomatch en.symm.trans e), fun i2 r2 p2 u2 G2 e2 s2 hp2 hu2 => ⟨p2, _, rfl, SqT.of hp2, rfl, _, _, rfl, _, _, rfl, rfl, ?_⟩⟩
    cases Option.some.inj (en.symm.trans e2)
    refine ⟨_, rfl, _, rfl, b, r.map V.int, rfl, SqX.of (hb.imp (s2 _ _) (s2 _ _)), fun b3 G3 s3 hb3 => ?_⟩
    refine ⟨.tuple (r.map .int), .tuple (r.map .int), .tup (SqT.of (s3 _ _ hu2)) (dp_ints r), .tup hb3 (dp_ints r), (ints_shaped r).1, (ints_shaped r).1, _, rfl, ?_⟩
    rw [show PyData.eqv (.tuple (r.map .int)) (.tuple (r.map .int)) = true from (ints_eqv r r).trans (decide_eq_true rfl)]
    refine iteF ?_
    have s13 := s2.trans s3
    refine ⟨_, rfl, m, rfl, hm, fun p4 rs4 G4 s4 hp4 prs4 => ?_⟩
    obtain ⟨cv, hcv, ac, rfl, hac⟩ := paired_of prs4 hc
    have s14 := s13.trans s4
    refine ⟨_, rfl, p4, _, _, _, rfl, rfl, SqT.of hp4, atI_nat (j := j) hcv, _, rfl, _, rfl, D, _, _, _, rfl, rfl, SqL.of (s14 _ _ hgD), atI_nat (j := j) (by rw [List.getElem?_map, hla]; rfl), _, rfl, ac, la2, c, t, xv, rfl, hac, s14 _ _ hlat, okc2, by omega, okt.1, okf, ?_⟩
    refine ⟨_, rfl, _, rfl, D, _, _, .ref la2, rfl, rfl, SqL.of (s14 _ _ hgD), atI_nat (j := j) (by rw [List.getElem?_map, hla]; rfl), .inl ⟨rfl, _, SqL.of (s14 _ _ hlat)⟩, _, rfl, la2, _, _, rfl, rfl, s14 _ _ hlat, ?_, ?_⟩
    · rw [List.length_map]
      exact small1000 (by have := okt.1; omega)
    have mem := List.mem_of_getElem? hla
    have eup : (t.map V.int ++ [V.int xv]) = (t ++ [xv]).map V.int := by rw [List.map_append]; rfl
    rw [eup]
    refine ⟨ts.set j (t ++ [xv]), _, _, _, _, _, rfl, same_put (sg.trans s14) (zH _ mem), ?_, lats_set nd (lats_same plt s14) hla, paired_set pok fun c2 hc2 => ?_, hr2⟩
    · rw [upd_ne (Ne.symm (zD _ mem))]
      exact s14 _ _ hgD
    · cases Option.some.inj (hc.symm.trans hc2)
      exact okt.snoc hask o3 okf
  · rintro σ G ⟨ts, v3, v4, v5, v6, v7, rfl, sg, hgD, plt, pok, hr2⟩
    rw [lv, List.drop_length] at hr2
    cases Option.some.inj hr2
    exact ⟨_, rfl, q D G sg ⟨_, hgD, lats_told plt, pok⟩⟩
theorem ok_nextask (F : Fun K "next_ask" "next_ask" sNA f fd) (T : Bn mg) (D_next_in : Df K mg "next_in" sNext f4 fd4 ["many", "told"]) (G_next_in : FnOk P w K mg base CX0 5 f4 fd4 ["many", "told"] spNext)
    (D_values_told : Df K mg "values_told" sTold f5 fd5 ["many", "answers"]) (G_values_told : FnOk P w K mg base CX0 6 f5 fd5 ["many", "answers"] (spTold K)) : FnOk P w K mg base CX0 7 f fd ["many", "answers"] (spNextAsk K) := by
  refine F.ok scNA (fun vs H Q E h => ?_) (fun cdv A outer s H vs Q E hr h => ?_)
  · obtain ⟨m, v, as, ts, rfl, _⟩ := h
    rfl
  obtain ⟨m, v, as, ts, rfl, hal, hm, hok, hlen, hrun, q0, q1⟩ := h
  refine ⟨_, (pss_one (ps_ret (pe_ix ix_tup (pe_cd D_next_in G_next_in hr (by decide) (pa_cons (pv 0) (pa_cons (pe_cd D_values_told G_values_told hr (by decide) (pa_cons (pv 0) (pa_cons (pv 1) pa_nil))) pa_nil))) pe_int (fun _ _ => rfl)))), ?_⟩
  refine ⟨_, rfl, _, rfl, _, rfl, m, v, as, ts, rfl, hal, hm, hok, hlen, hrun, fun l H1 s1 ht => ?_⟩
  refine ⟨m, l, ts, rfl, hm, ht, fun e p H2 s2 hp => ?_, fun i r p u H2 e s2 hp hu => ?_⟩
  · exact ⟨p, _, _, _, rfl, rfl, SqT.of hp, atI_nat (j := 1) rfl, q0 e _ (s1.trans s2)⟩
  · exact ⟨p, _, _, _, rfl, rfl, SqT.of hp, atI_nat (j := 1) rfl, q1 i r u _ e (s1.trans s2) hu⟩
end
end TF51
/-! own rule: sorted of a list with at most one item, whatever this is -/
namespace TG
open PySem PySem.Spec L2
open PyProof.Rows hiding St
section
variable {prog : Program} {w : World} {A : Around} {E : Value → Shared → Prop} {s : Shared}
theorem perm_small {α : Type} {xs ys : List α} (h : xs.Perm ys) (l : ys.length ≤ 1) : xs = ys := by
  match ys, l, h with
  | [], _, h => exact List.perm_nil.mp h
  | [y], _, h => exact List.perm_singleton.mp h
theorem call_sortedSmall {l : Addr} {vs : List Value} {Q : Value → Shared → Prop} (hl : s.heap.IsList l vs.toArray) (few : vs.length ≤ 1) (q : Q (.ref (s.heap.objs.size + 1)) { s with heap := sortedAll s.heap vs vs.toArray }) :
    wpAny (model prog w) A (call (.builtin "sorted") [.ref l]) Q E s := by
  have big : vs.length ≤ sizeLine := by rw [sizeLine_eq]; omega
  have h0 : ((s.heap.push (seqObj "list" #[] 0)).update s.heap.objs.size (Obj.mapSeq (· ++ vs.toArray))).objs.size = s.heap.objs.size + 1 := (Heap.size_update ..).trans (size_push' ..)
  have at2 : (((s.heap.push (seqObj "list" #[] 0)).update s.heap.objs.size (Obj.mapSeq (· ++ vs.toArray))).push (seqObj "list" vs.toArray 0)).get? (s.heap.objs.size + 1) = some (seqObj "list" vs.toArray 0) := h0 ▸ Heap.get?_push_size _ rfl
  refine Calls.call_function_entry kind_sorted plain_sorted entry_sorted (args_sorted1 (.ref l)) ?_
  unfold Builtin.«sorted»
  refine wpAny_bind (m := checkCount "sorted" 1 1 _) (wpAny_pure (wpAny_bind (collect_list hl (wpAny_bind (wpAny_newList ?_ big)) big)))
  show wpAny _ _ _ _ _ { s with heap := ((s.heap.push (seqObj "list" #[] 0)).update s.heap.objs.size (Obj.mapSeq (· ++ vs.toArray))).push (seqObj "list" vs.toArray 0) }
  rw [h0]
  refine wpAny_bind (wpAny_holding (wpAny_call_entry slot_list_sort ⟨_, at2, rfl⟩ entry_list_sort (SK.plain_sort (r := fun _ => 0) at2 (by omega) (fun h2 => absurd few (by omega)) fun ps out e1 pm _ => ⟨_, rfl, ?_⟩) (args_list_sort _)))
  have e2 : out = vs.toArray := by
    have z : ps = vs.zip vs := perm_small pm (by rw [List.length_zip]; omega)
    rw [z, List.map_snd_zip (Nat.le_refl _)] at e1
    rw [← e1]
  subst e2
  exact wpAny_pure ⟨_, rfl, q⟩
end
section
variable {X : Cx}
/-- sorted(xs), xs of one item at most -/
def rSortS (K : PySem.W.Frag) : List V → Hp → VK → Prop := fun vs H Q => ∃ (a : Addr) (xs : List V), vs = [V.ref a] ∧ SqL K H a xs ∧ xs.length ≤ 1 ∧ ∀ p, H p = none → Q (.ref p) (upd H p (.lst xs))
theorem cr_sortSmall : CallR X (.builtin "sorted") (rSortS X.K) := by
  intro pins s σ H vs us Q I r h
  obtain ⟨a, xs, rfl, hs, few, q⟩ := h
  obtain ⟨its, rv, hl, hz⟩ := I.list hs
  cases Vals.ref1 r
  refine call_sortedSmall hl.isList (by rw [← rv.length]; exact few) ?_
  obtain ⟨ep, at3⟩ := PyProof.Rows.sortedAll_at s.heap its its.toArray
  refine ⟨.ref _, upd H (s.heap.objs.size + 1) (.lst xs), I.laid (t' := s.toks) (fun _ _ => PyProof.Rows.sortedAll_old) (Nat.le_succ _) ⟨hz, its, ep, rv, by simpa using at3⟩, rfl, q _ (I.hok.fresh (Nat.le_succ _))⟩
end
end TG
set_option maxHeartbeats 400000
/-! own rule: zip of any two of lists and tuples -/
namespace TG
open PySem PySem.Spec L2
open PyProof.Rows hiding St
/-- true: a list; false: a tuple -/
def SqB (b : Bool) (K : PySem.W.Frag) (H : Hp) (a : Addr) (xs : List V) : Prop := match b with | true => SqL K H a xs | false => SqT K H a xs
def IterB (b : Bool) (h : Heap) (it a : Addr) (i : Nat) : Prop := match b with | true => h.IsListIter it a i | false => h.IsTupleIter it a i
def AtB (b : Bool) (h : Heap) (a : Addr) (items : Array Value) : Prop := match b with | true => h.IsList a items | false => h.IsTuple a items
def itO (b : Bool) (a : Addr) : Obj := match b with | true => { cls := .type "list_iterator", data := .fields #[.ref a, .int 0 0] } | false => { cls := .type "tuple_iterator", data := .fields #[.ref a, .int 0 0] }
theorem drawsB {prog : Program} {w : World} {A : Around} (hh : A.handled = none) (b : Bool) (it a : Addr) (ne : a ≠ it) (items : Array Value) :
    Draws prog w A it [it, a] items.size (fun i v => items[i]? = some v) (fun i h => IterB b h it a i ∧ AtB b h a items) := by
  cases b
  · exact Draws.tuple hh it a ne items
  · exact Draws.list hh it a ne items
theorem beginsB (b : Bool) (a : Addr) (items : Array Value) : Begins (.ref a) (itO b a) fun h => AtB b h a items := by
  cases b
  · exact begins_tuple a items
  · exact begins_list a items
theorem iterB_live {b : Bool} {h : Heap} {it a : Addr} {i : Nat} (x : IterB b h it a i) : ∃ o : Obj, h.get? it = some o ∧ ∃ vs, o.data = .fields vs := by
  cases b
  · obtain ⟨o, h1, _, h2⟩ := x
    exact ⟨o, h1, _, h2⟩
  · obtain ⟨o, h1, _, h2⟩ := x
    exact ⟨o, h1, _, h2⟩
theorem iterB_at {b : Bool} {h h2 : Heap} {it a : Addr} {i : Nat} (x : IterB b h it a i) (k : ∀ o, h.get? it = some o → h2.get? it = some o) : IterB b h2 it a i := by
  cases b
  · exact Heap.IsTupleIter.at x k
  · exact Heap.IsListIter.at x k
theorem iterB_new {b : Bool} {h : Heap} {it a : Addr} (x : h.get? it = some (itO b a)) : IterB b h it a 0 := by
  cases b
  · exact ⟨_, x, rfl, rfl⟩
  · exact ⟨_, x, rfl, rfl⟩
section
variable {X : Cx} {pins : List (Addr × Obj)} {σ : L2.St} {H : Hp} {s : Shared} {a : Addr} {xs ys : List V} {b : Bool}
theorem inv_B (I : Inv X pins σ H s) (h : SqB b X.K H a xs) : ∃ its, Vals xs its ∧ AtB b s.heap a its.toArray := by
  cases b
  · obtain ⟨its, r, p, _⟩ := I.tuple h
    exact ⟨its, r, p⟩
  · obtain ⟨its, r, p, _⟩ := I.list h
    exact ⟨its, r, p.isList⟩
theorem inv_Binj (I : Inv X pins σ H s) (h : SqB b X.K H a xs) (g : SqB b X.K H a ys) : xs = ys := by
  cases b
  · exact I.tuple_inj h g
  · exact I.list_inj h g
end
/-- those at a and c as they stand at each turn, the items in new pairs -/
def ItzB (K : PySem.W.Frag) (b1 b2 : Bool) (a c : Addr) : It :=
  ⟨fun i H => ∃ (xs ys : List V) (x y : V), SqB b1 K H a xs ∧ SqB b2 K H c ys ∧ xs[i]? = some x ∧ ys[i]? = some y,
   fun i H v H' => ∃ T x y, v = .ref T ∧ H T = none ∧ H' = upd H T (.tup [x, y]) ∧ (∀ xs, SqB b1 K H a xs → xs[i]? = some x) ∧ ∀ ys, SqB b2 K H c ys → ys[i]? = some y,
   fun i H => ∃ xs ys : List V, SqB b1 K H a xs ∧ SqB b2 K H c ys ∧ i = min xs.length ys.length⟩
theorem turn_zipB {P : Program} {w : World} {K : PySem.W.Frag} {elts : List Expr} {kk : Nat} {tpos : Pos} {b1 b2 : Bool} {a c z TI TO i1 i2 : Addr} (D : ZipSep2 z TI TO i1 i2 [i1, a] [i2, c]) (n1 : a ≠ i1) (n2 : c ≠ i2) :
    Turn P w K (.Tuple elts kk tpos) (ItzB K b1 b2 a c) [z, TI, TO, i1, i2] z (fun i h => IsZip h z TI TO .none ∧ IsTupOf2 h TI (.ref i1) (.ref i2) ∧ (∃ x y, IsTupOf2 h TO x y) ∧ IterB b1 h i1 a i ∧ IterB b2 h i2 c i) := by
  refine ⟨by simp, fun i h st q hq => ?_, fun i h h2 st k => ?_, ?_, ?_, fun A i s Q E st h => wpAny_pyIter_zip st.1 h⟩
  · obtain ⟨hz, hTI, ⟨x, y, hTO⟩, e1, e2⟩ := st
    obtain ⟨o1, g1, v1, d1⟩ := iterB_live e1
    obtain ⟨o2, g2, v2, d2⟩ := iterB_live e2
    have q' : q = z ∨ q = TI ∨ q = TO ∨ q = i1 ∨ q = i2 := by simpa using hq
    rcases q' with rfl | rfl | rfl | rfl | rfl
    · exact ⟨_, hz, fun v q => nomatch q⟩
    · exact ⟨_, hTI, fun v q => nomatch q⟩
    · exact ⟨_, hTO, fun v q => nomatch q⟩
    · exact ⟨o1, g1, fun v q => nomatch d1.symm.trans q⟩
    · exact ⟨o2, g2, fun v q => nomatch d2.symm.trans q⟩
  · obtain ⟨hz, hTI, ⟨x, y, hTO⟩, e1, e2⟩ := st
    exact ⟨k z (by simp) _ hz, k TI (by simp) _ hTI, ⟨x, y, k TO (by simp) _ hTO⟩, iterB_at e1 fun o q => k i1 (by simp) o q, iterB_at e2 fun o q => k i2 (by simp) o q⟩
  · intro X hP hw hK hc i pins s σ H E I hf st hg
    cases hP; cases hw; cases hK
    obtain ⟨hz, hTI, ⟨x0, y0, hTO⟩, e1, e2⟩ := st
    obtain ⟨xs, ys, x, y, hqx, hqy, hx, hy⟩ := hg
    obtain ⟨its, rv, p1⟩ := inv_B I hqx
    obtain ⟨its2, rv2, p2⟩ := inv_B I hqy
    obtain ⟨u, hu, ru⟩ := rv.get hx
    obtain ⟨u2, hu2, ru2⟩ := rv2.get hy
    have hI : its.toArray[i]? = some u := by simpa using hu
    have hI2 : its2.toArray[i]? = some u2 := by simpa using hu2
    have D1 := drawsB (prog := X.prog) (w := X.w) (A := X.A.in1) (by simpa using I.ok.hd hc) b1 i1 a n1 its.toArray
    have D2 := drawsB (prog := X.prog) (w := X.w) (A := X.A.in1) (by simpa using I.ok.hd hc) b2 i2 c n2 its2.toArray
    refine wpAny_pyNext_zipD2_item D D1 D2 hz hTI hTO ⟨e1, p1⟩ ⟨e2, p2⟩ (Array.getElem?_eq_some_iff.mp hI).1 (Array.getElem?_eq_some_iff.mp hI2).1 fun v1 v2 h2 tk y1 y2 z2 TO2 st1 st2 hT _ hk => ?_
    cases Option.some.inj (hI.symm.trans y1)
    cases Option.some.inj (hI2.symm.trans y2)
    have lz : z < s.heap.objs.size := Heap.lt_size hz
    refine ⟨_, rfl, wpAny_letOwnedTupleGo_zip (s := { s with heap := h2, toks := tk }) z2 fun h3 z3 sb => ?_⟩
    have hT3 : h3.get? s.heap.objs.size = some { cls := .type "tuple", data := .seq #[u, u2] } := (sb.2 _ (Nat.ne_of_gt lz)).trans hT
    have fresh := I.hok.fresh (Nat.le_refl s.heap.objs.size)
    have keep : ∀ q o, q ≠ z → q ≠ TO → q ≠ i1 → q ≠ i2 → s.heap.get? q = some o → h3.get? q = some o := fun q o a1 a2 a3 a4 e => (sb.2 q a1).trans (hk q o a1 a2 a3 a4 e)
    have I1 : Inv X pins σ (upd H s.heap.objs.size (.tup [x, y])) { s with heap := h3, toks := tk } := by
      refine I.turnedNew (ch := [z, TI, TO, i1, i2]) (fun q o hb e => keep q o ?_ ?_ ?_ ?_ e) hf (Nat.le_refl _) ⟨by show 2 ≤ sizeLine; decide, [u, u2], .cons ru (.cons ru2 .nil), ⟨_, hT3, rfl, _, rfl⟩⟩
      all_goals exact fun e2 => hb (by simp [e2])
    obtain ⟨_, g1, _⟩ := iterB_live e1
    obtain ⟨_, g2, _⟩ := iterB_live e2
    refine ⟨.ref s.heap.objs.size, _, I1, rfl, ⟨_, x, y, rfl, fresh, rfl, fun l hl => by rw [inv_Binj I hl hqx]; exact hx, fun l hl => by rw [inv_Binj I hl hqy]; exact hy⟩, ⟨z3, ?_, ⟨u, u2, ?_⟩, ?_, ?_⟩, fun q hq => ?_⟩
    · exact keep TI _ D.TIz D.TITO D.TIi1 D.TIi2 hTI
    · exact (sb.2 TO D.TOz).trans TO2
    · exact iterB_at st1.1 fun o e => (sb.2 i1 (Ne.symm D.zi1)).trans e
    · exact iterB_at st2.1 fun o e => (sb.2 i2 (Ne.symm D.zi2)).trans e
    · have q' : q = z ∨ q = TI ∨ q = TO ∨ q = i1 ∨ q = i2 := by simpa using hq
      have lq : q < s.heap.objs.size := by
        rcases q' with rfl | rfl | rfl | rfl | rfl
        · exact lz
        · exact Heap.lt_size hTI
        · exact Heap.lt_size hTO
        · exact Heap.lt_size g1
        · exact Heap.lt_size g2
      rw [upd_ne (Nat.ne_of_lt lq)]
      exact (hf q hq).1
  · intro X hP hw hK hc i pins s σ H E I hf st hg
    cases hP; cases hw; cases hK
    obtain ⟨hz, hTI, ⟨x0, y0, hTO⟩, e1, e2⟩ := st
    obtain ⟨xs, ys, hqx, hqy, hend⟩ := hg
    obtain ⟨its, rv, p1⟩ := inv_B I hqx
    obtain ⟨its2, rv2, p2⟩ := inv_B I hqy
    have l1 := rv.length
    have l2 := rv2.length
    have D1 := drawsB (prog := X.prog) (w := X.w) (A := X.A.in1) (by simpa using I.ok.hd hc) b1 i1 a n1 its.toArray
    have D2 := drawsB (prog := X.prog) (w := X.w) (A := X.A.in1) (by simpa using I.ok.hd hc) b2 i2 c n2 its2.toArray
    have m1 : i ≤ its.toArray.size := by rw [List.size_toArray, ← l1]; omega
    have m2 : i ≤ its2.toArray.size := by rw [List.size_toArray, ← l2]; omega
    have m3 : i = its.toArray.size ∨ i = its2.toArray.size := by rw [List.size_toArray, List.size_toArray, ← l1, ← l2]; omega
    refine wpAny_pyNext_zipD2_end D D1 D2 hz hTI hTO (And.intro e1 p1) (And.intro e2 p2) m1 m2 m3 fun h2 tk hk => ?_
    have keep : ∀ q o, q ∉ [z, TI, TO, i1, i2] → s.heap.get? q = some o → h2.get? q = some o := fun q o hb e => hk q o (fun e2 => hb (by simp [e2])) (fun e2 => hb (by simp [e2])) (fun e2 => hb (by simp [e2])) (fun e2 => hb (by simp [e2])) e
    exact ⟨rfl, I.turnedL (t' := tk) (ch := [z, TI, TO, i1, i2]) keep hf⟩
def iZipB (K : PySem.W.Frag) (ta : L2.TA) : TI := fun σ H R => ta σ H fun vs H1 => ∃ a c xs ys, vs = [.ref a, .ref c] ∧ SqX K H1 a xs ∧ SqX K H1 c ys ∧
  ∀ (J : It) (G : Hp → Prop), Walk J (min xs.length ys.length) G (YPair (fun i => xs[i]?) fun i => ys[i]?) → (∀ H2, (∀ o, H1 a = some o → H2 a = some o) → (∀ o, H1 c = some o → H2 c = some o) → G H2) → R J H1
theorem walk_zipB {K : PySem.W.Frag} {b1 b2 : Bool} {a c : Addr} {xs ys : List V} : Walk (ItzB K b1 b2 a c) (min xs.length ys.length) (fun H => SqB b1 K H a xs ∧ SqB b2 K H c ys) (YPair (fun i => xs[i]?) fun i => ys[i]?) := by
  constructor
  · intro i _ hi q
    have h1 : i < xs.length := by omega
    have h2 : i < ys.length := by omega
    exact ⟨xs, ys, xs[i], ys[i], q.1, q.2, by simp [h1], by simp [h2]⟩
  · exact fun _ q => ⟨xs, ys, q.1, q.2, rfl⟩
  · rintro i H v H' _ q ⟨T, x, z, h1, h2, h3, h4, h5⟩
    exact ⟨T, x, z, h1, h2, h3, h4 xs q.1, h5 ys q.2⟩
theorem sqB_keep {K : PySem.W.Frag} {b : Bool} {H1 H2 : Hp} {a : Addr} {xs : List V} (h : SqB b K H1 a xs) (k : ∀ o, H1 a = some o → H2 a = some o) : SqB b K H2 a xs := by
  cases b
  · exact Or.imp (Or.imp (k _) fun ⟨o, z⟩ => ⟨o, k _ z⟩) id h
  · exact Or.imp (Or.imp (k _) fun ⟨o, z⟩ => ⟨o, k _ z⟩) id h
theorem sqX_B {K : PySem.W.Frag} {H : Hp} {a : Addr} {xs : List V} (h : SqX K H a xs) : ∃ b, SqB b K H a xs := h.elim (fun h => ⟨true, h⟩) fun h => ⟨false, h⟩
theorem atB_lt {b : Bool} {h : Heap} {a : Addr} {items : Array Value} (x : AtB b h a items) : a < h.objs.size := by
  cases b
  · obtain ⟨o, ho, _⟩ := x
    exact Heap.lt_size ho
  · obtain ⟨o, ho, _⟩ := x
    exact Heap.lt_size ho
theorem pi_zipX {X : Cx} {e e2 : Expr} {ta : L2.TA} {p pos tpos : Pos} {elts : List Expr} {kk : Nat} (hg : Gl X "zip") (hm : X.mg "zip" = none) (ha : PA X [e, e2] ta)
    (hs : starEach [e, e2] X.env = (false, eval e X.env) :: starEach [e2] X.env := by rfl) (hpl : (backTo pos (starEach [e2] X.env)).any (·.1) = false := by rfl) :
    PI X (.Tuple elts kk tpos) (.Call (.Name "zip" p) [e, e2] [] pos) (iZipB X.K ta) := by
  refine ⟨fun pins s σ H R I h => ?_⟩
  have go := ha.run pos pins s σ H _ I h
  refine Call_ (ld_blt I hg hm boot_zip (callWith_type1 (thn go fun us s1 z => ?_) hs hpl))
  obtain ⟨vs, H1, I1, r1, a, c, xs, ys, rfl, hx, hy, q⟩ := z
  obtain ⟨b1, hx⟩ := sqX_B hx
  obtain ⟨b2, hy⟩ := sqX_B hy
  match us, r1 with
  | [_, _], .cons r (.cons r2 .nil) =>
  cases r
  cases r2
  obtain ⟨its, rv, p1⟩ := inv_B I1 hx
  obtain ⟨its2, rv2, p2⟩ := inv_B I1 hy
  have la := atB_lt p1
  have lc := atB_lt p2
  have D : ZipSep2 (s1.heap.objs.size + 4) (s1.heap.objs.size + 2) (s1.heap.objs.size + 3) s1.heap.objs.size (s1.heap.objs.size + 1) [s1.heap.objs.size, a] [s1.heap.objs.size + 1, c] :=
    zip_sep2 (fun b hb => by cases List.mem_singleton.mp hb; exact la) (fun b hb => by cases List.mem_singleton.mp hb; exact lc)
  refine zip_begins2 (beginsB b1 a its.toArray) (beginsB b2 c its2.toArray) p1 p2 fun h2 hz hTI hTO e1 e2 _ hk => wpAny_pyIter_zip hz ?_
  have I2 : Inv X pins σ H1 { s1 with heap := h2 } := I1.kept (t' := s1.toks) hk
  refine ⟨s1.heap.objs.size + 4, [s1.heap.objs.size + 4, s1.heap.objs.size + 2, s1.heap.objs.size + 3, s1.heap.objs.size, s1.heap.objs.size + 1], _, _, H1, rfl, I2, turn_zipB (b1 := b1) (b2 := b2) D (Nat.ne_of_lt la) (Nat.ne_of_lt (Nat.lt_succ_of_lt lc)), ⟨hz, hTI, ⟨_, _, hTO⟩, iterB_new e1, iterB_new e2⟩, fun b hb => ?_, q _ _ walk_zipB fun H2 k1 k2 => ⟨sqB_keep hx k1, sqB_keep hy k2⟩⟩
  have lb : s1.heap.objs.size ≤ b := by
    have b' : b = s1.heap.objs.size + 4 ∨ b = s1.heap.objs.size + 2 ∨ b = s1.heap.objs.size + 3 ∨ b = s1.heap.objs.size ∨ b = s1.heap.objs.size + 1 := by simpa using hb
    rcases b' with e | e | e | e | e <;> rw [e] <;> first | exact Nat.le_refl _ | exact Nat.le_add_right _ _
  exact I1.fpOk lb (I1.hok.fresh lb)
end TG
namespace TF51
open PySem PySem.Spec L2 TG TA
open PyProof.Rows hiding St
/-! ### powers; choices -/
abbrev sPw : Stmt := top 32
abbrev sLC : Stmt := top 33
theorem scPw : FnScope ["number", "times", "found", "turn"] ["number", "times"] (defScope sPw) := ⟨rfl, rfl, rfl, by decide +kernel, rfl, by decide +kernel, by decide +kernel⟩
theorem scLC : FnScope ["many", "found", "turn", "choice"] ["many"] (defScope sLC) := ⟨rfl, rfl, rfl, by decide +kernel, rfl, by decide +kernel, by decide +kernel⟩
def spPw : Sp := fun vs H Q _ => ∃ (n : Int) (k e : Nat), vs = [.int n, .int (k : Int)] ∧ 0 ≤ n ∧ n ≤ 2 ^ e ∧ e * k + e ≤ 900000 ∧ k ≤ 100000 ∧ Q (.int (n ^ k)) H
def spLC : Sp := fun vs H Q _ => ∃ m : Nat, vs = [.int (m : Int)] ∧ m ≤ 3 ∧ ∀ (p : Addr) (rs : List V) (H' : Hp), Same H H' → H p = none → H' p = some (.lst rs) → Paired (TupAt H') rs (chs m) → Q (.ref p) H'
theorem paired_app {α β : Type} {R : α → β → Prop} : ∀ {xs xs2 : List α} {ys ys2 : List β}, Paired R xs ys → Paired R xs2 ys2 → Paired R (xs ++ xs2) (ys ++ ys2)
  | _, _, _, _, .nil, h => h
  | _, _, _, _, .cons r t, h => .cons r (paired_app t h)
/-- as the law makes them -/
def lchs : Nat → List (List Int)
  | 0 => [[]]
  | m + 1 => (lchs m).map (fun c => c ++ [0]) ++ (lchs m).map fun c => c ++ [1]
theorem lchs_ok : ∀ m, m ≤ 3 → (lchs m).length ≤ 8 ∧ ∀ c ∈ lchs m, c.length = m ∧ ∀ s ∈ c, 0 ≤ s ∧ s < 2 := by
  have h : ∀ m, m < 4 → (lchs m).length ≤ 8 ∧ ∀ c ∈ lchs m, c.length = m ∧ ∀ s ∈ c, 0 ≤ s ∧ s < 2 := by decide
  exact fun m hm => h m (by omega)
theorem lchs_perm : ∀ m, m ≤ 3 → (lchs m).Perm (chs m) := by
  have h : ∀ m, m < 4 → (lchs m).isPerm (chs m) = true := by decide +kernel
  exact fun m hm => List.isPerm_iff.mp (h m (by omega))
theorem chs_sorted : ∀ m, m ≤ 3 → (chs m).Pairwise fun a b => TS.code 2 a < TS.code 2 b := by
  have h : ∀ m, m < 4 → (chs m).Pairwise fun a b => TS.code 2 a < TS.code 2 b := by decide +kernel
  exact fun m hm => h m (by omega)
theorem sorted_eq {α : Type} (key : α → Int) : ∀ {l1 l2 : List α}, l1.Perm l2 → l1.Pairwise (fun a b => key a ≤ key b) → l2.Pairwise (fun a b => key a < key b) → l1 = l2
  | [], _, p, _, _ => (List.nil_perm.mp p).symm
  | a :: t1, [], p, _, _ => List.perm_nil.mp p
  | a :: t1, b :: t2, p, s1, s2 => by
    obtain ⟨a1, a2⟩ := List.pairwise_cons.mp s1
    obtain ⟨b1, b2⟩ := List.pairwise_cons.mp s2
    have e : a = b := by
      rcases List.mem_cons.mp (p.mem_iff.mp (List.mem_cons_self (a := a) (l := t1))) with h | h
      · exact h
      · have h1 := b1 a h
        rcases List.mem_cons.mp (p.mem_iff.mpr (List.mem_cons_self (a := b) (l := t2))) with h2 | h2
        · exact h2.symm
        · have := a1 b h2
          omega
    subst e
    rw [sorted_eq key (List.Perm.cons_inv p) a2 b2]
theorem paired_perm {α β : Type} {R : α → β → Prop} {ys xs : List α} (p : ys.Perm xs) : ∀ {L : List β}, Paired R xs L → ∃ L2, Paired R ys L2 ∧ L2.Perm L := by
  induction p with
  | nil => intro L h; exact ⟨L, h, .refl _⟩
  | cons x p ih =>
    intro L h
    cases h with
    | cons r t =>
      obtain ⟨L2, h1, h2⟩ := ih t
      exact ⟨_ :: L2, .cons r h1, h2.cons _⟩
  | swap x y l =>
    intro L h
    cases h with
    | cons r t =>
      cases t with
      | cons r2 t => exact ⟨_ :: _ :: _, .cons r2 (.cons r t), .swap _ _ _⟩
  | trans p1 p2 i1 i2 =>
    intro L h
    obtain ⟨L2, h1, h2⟩ := i2 h
    obtain ⟨L3, h3, h4⟩ := i1 h1
    exact ⟨L3, h3, h4.trans h2⟩
theorem pairwise_paired {α β : Type} {R : α → β → Prop} {S : α → α → Prop} {T : β → β → Prop} (h : ∀ x y n m, R x n → R y m → S x y → T n m) : ∀ {xs : List α} {L : List β}, Paired R xs L → xs.Pairwise S → L.Pairwise T
  | _, _, .nil, _ => List.Pairwise.nil
  | _, _, .cons r t, s => by
    obtain ⟨s1, s2⟩ := List.pairwise_cons.mp s
    refine List.pairwise_cons.mpr ⟨fun m hm => ?_, pairwise_paired h t s2⟩
    obtain ⟨i, hi⟩ := List.getElem?_of_mem hm
    obtain ⟨x, hx, r2⟩ := paired_of t hi
    exact h _ _ _ _ r r2 (s1 x (List.mem_of_getElem? hx))
section
variable {P : Program} {w : World} {K : PySem.W.Frag} {mg : Str → Option Value} {base : Heap} {f : Addr} {fd : FuncData}
theorem ok_pw (F : Fun K "_law_power" "_law_power" sPw f fd) (T : Bn mg) : FnOk P w K mg base CX0 1 f fd ["number", "times"] spPw := by
  refine F.ok scPw (fun vs H Q E h => ?_) (fun cdv A outer s H vs Q E hr h => ?_)
  · obtain ⟨n, k, e, rfl, _⟩ := h
    rfl
  obtain ⟨n, k, e, rfl, n0, ne, ek, hk, q⟩ := h
  refine ⟨_, (pss_cons (ps_set (i := 2) scPw.nd rfl (.inl rfl) pe_int)
      (pss_cons (ps_for PassesOwn.never rfl (pi_range1 (by rfl) T.b_range (pa_cons (pv 1) pa_nil)) (pg_name (i := 3) scPw.nd rfl (.inl rfl))
        (pss_one (ps_set (i := 2) scPw.nd rfl (.inl rfl) (pe_op op_mulW (pv 2) (pv 0)))))
      (pss_one (ps_ret (pv 2))))), ?_⟩
  refine ⟨_, rfl, (k : Int), rfl, by omega, by omega, ?_⟩
  refine for_range (lo := 0) (n := (k : Int).toNat) (fun j σ G => G = H ∧ ∃ v3, σ = [some (.int n), some (.int (k : Int)), some (.int (n ^ j)), v3]) ⟨rfl, _, by rw [Int.pow_zero]; rfl⟩ ?_ ?_
  · rintro j σ G hj ⟨rfl, v3, rfl⟩
    have hj2 : j < k := by omega
    have ej : e * j ≤ e * k := Nat.mul_le_mul_left e (Nat.le_of_lt hj2)
    have m1 := pow_abs n0 ne j
    have m2 := pow_abs n0 ne 1
    rw [Int.pow_one] at m2
    exact ⟨_, rfl, _, rfl, _, _, rfl, rfl, wide_mul m1 m2 (by omega) (by omega) (by omega), rfl, _, by rw [Int.pow_succ]; rfl⟩
  · rintro σ G ⟨rfl, v3, rfl⟩
    rw [Int.toNat_natCast]
    exact ⟨_, rfl, q⟩
theorem ok_lc (F : Fun K "_law_choices" "_law_choices" sLC f fd) (T : Bn mg) : FnOk P w K mg base CX0 1 f fd ["many"] spLC := by
  refine F.ok scLC (fun vs H Q E h => ?_) (fun cdv A outer s H vs Q E hr h => ?_)
  · obtain ⟨m, rfl, _⟩ := h
    rfl
  obtain ⟨m, rfl, hm, q⟩ := h
  have lok := lchs_ok
  have go : ∀ (Q2 : VK), (∀ (l : Addr) (rs : List V) (H2 : Hp), Same H H2 → H2 l = some (.lst rs) → Paired (TupAt H2) rs (lchs m) → rs.length ≤ 8 → Q2 (.ref l) H2) → (tSeq (tAsg (tLst (tCons (tTup tNil) tNil)) (gName 1))
    (tSeq (tFor (iRng1 (tCons (tVar 0) tNil)) (gName 2) (tAsg (tOp rCat
            (tLc (iList K (tVar 1)) (gName 3) tYes (tOp (rCatA K) (tVar 3) (tTup (tCons (tC (V.int 0)) tNil))) [3])
            (tLc (iList K (tVar 1)) (gName 3) tYes (tOp (rCatA K) (tVar 3) (tTup (tCons (tC (V.int 1)) tNil))) [3])) (gName 1)))
      (tRet (tVar 1)))) { nx := fun x H' => Q2 V.non H', rt := Q2 } [some (.int (m : Int)), none, none, none] H := by
    intro Q2 q2
    refine ⟨(by show 0 ≤ sizeLine; decide), fun t0 ht0 => ⟨(by show 1 ≤ sizeLine; decide), fun l0 hl0 => ?_⟩⟩
    have s0 := (new_same (o := .tup []) ht0).trans (new_same (o := .lst [.ref t0]) hl0)
    have t00 := new_same (o := .lst [.ref t0]) hl0 _ _ (upd_same (H := H) (a := t0) (o := .tup []))
    have l00 : (L2.upd (L2.upd H t0 (.tup [])) l0 (.lst [.ref t0])) l0 = some (.lst [.ref t0]) := upd_same
    generalize L2.upd (L2.upd H t0 (.tup [])) l0 (.lst [.ref t0]) = H1 at s0 t00 l00 ⊢
    refine ⟨_, rfl, (m : Int), rfl, by omega, by omega, ?_⟩
    refine for_range (lo := 0) (n := (m : Int).toNat) (fun k σ G => ∃ (l : Addr) (rs : List V) (v2 v3 : Option V), σ = [some (.int (m : Int)), some (.ref l), v2, v3] ∧ G l = some (.lst rs) ∧ Paired (TupAt G) rs (lchs k) ∧ Same H1 G) ⟨l0, [.ref t0], _, _, rfl, l00, .cons ⟨t0, rfl, t00⟩ .nil, fun _ _ e => e⟩ ?_ ?_
    rotate_left
    · rintro σ G ⟨l, rs, v2, v3, rfl, hl, hrs, s1⟩
      rw [Int.toNat_natCast] at hrs
      have := TG.paired_len hrs
      have := (lok m hm).1
      exact ⟨_, rfl, q2 l rs G (s0.trans s1) hl hrs (by omega)⟩
    rintro k σ G hk ⟨l, rs, v2, v3, rfl, hl, hrs, s1⟩
    have hk3 : k < 3 := by omega
    obtain ⟨hlen, _⟩ := lok k (by omega)
    refine ⟨_, rfl, l, rfl, ⟨_, SqL.of hl⟩, fun D0 hD0 => ?_⟩
    refine lc_list (K := K) (a := l) (xs := rs) (fun j G4 => Same G G4 ∧ ∃ ds, G4 D0 = some (.lst ds) ∧ ds.length = j ∧ Paired (TupAt G4) ds (((lchs k).map fun c => c ++ [0]).take j)) ?_ ?_ ?_ ?_
    · exact ⟨new_same hD0, [], upd_same, rfl, .nil⟩
    · rintro j G4 _ ⟨s2, _⟩
      exact SqL.of (s2 _ _ hl)
    · rintro j x G4 hx ⟨s2, ds, hd, ld, pd⟩
      obtain ⟨c, hc, hxc⟩ := TG.paired_get hrs hx
      obtain ⟨ac, rfl, hac⟩ := hxc.same s2
      have hj := (List.getElem?_eq_some_iff.mp hc).1
      have big : ds.length < sizeLine := small1000 (by omega)
      have fin : ∀ (G6 : Hp) (z : V), Same G4 G6 → TupAt G6 z (c ++ [0]) → ∃ acc, G6 D0 = some (.lst acc) ∧ acc.length < sizeLine ∧ Same G (L2.upd G6 D0 (.lst (acc ++ [z]))) ∧ ∃ ds2, (L2.upd G6 D0 (.lst (acc ++ [z]))) D0 = some (.lst ds2) ∧ ds2.length = j + 1 ∧ Paired (TupAt (L2.upd G6 D0 (.lst (acc ++ [z])))) ds2 (((lchs k).map fun c => c ++ [0]).take (j + 1)) := by
        intro G6 z s6 hz
        have hd6 := s6 _ _ hd
        refine ⟨ds, hd6, big, same_put (s2.trans s6) hD0, ds ++ [z], upd_same, by rw [List.length_append, ld]; rfl, ?_⟩
        rw [take_more (x := c ++ [0]) (by rw [List.getElem?_map, hc]; rfl)]
        exact tups_push hd6 (tups_same pd s6) hz
      refine ⟨rfl, _, rfl, (by show 1 ≤ sizeLine; decide), fun u hu => ⟨ac, u, _, _, rfl, rfl, SqT.of (new_same hu _ _ hac), SqT.of upd_same, ?_, fun e => ?_, fun _ e => absurd e (List.cons_ne_nil _ _), fun _ _ p hp => ?_⟩⟩
      · have := (lok k (by omega)).2 c (List.mem_of_getElem? hc)
        rw [List.length_map, this.1]
        exact Nat.le_of_lt (small1000 (by show k + 1 ≤ 1000; omega))
      · have e2 : c = [] := List.map_eq_nil_iff.mp e
        subst e2
        exact fin _ _ (new_same hu) ⟨u, rfl, upd_same⟩
      · refine fin _ _ ((new_same hu).trans (new_same hp)) ⟨p, rfl, ?_⟩
        rw [upd_same, List.map_append]
        rfl
    rintro G2 ⟨s2, ds0, hds0, lds0, pds0⟩
    rw [TG.paired_len hrs, List.take_of_length_le (by rw [List.length_map]; exact Nat.le_refl _)] at pds0
    have hl2 := s2 _ _ hl
    have hrs2 := tups_same hrs s2
    refine ⟨_, rfl, l, rfl, ⟨_, SqL.of hl2⟩, fun D1 hD1 => ?_⟩
    refine lc_list (K := K) (a := l) (xs := rs) (fun j G4 => Same G2 G4 ∧ ∃ ds, G4 D1 = some (.lst ds) ∧ ds.length = j ∧ Paired (TupAt G4) ds (((lchs k).map fun c => c ++ [1]).take j)) ?_ ?_ ?_ ?_
    · exact ⟨new_same hD1, [], upd_same, rfl, .nil⟩
    · rintro j G4 _ ⟨s2, _⟩
      exact SqL.of (s2 _ _ hl2)
    · rintro j x G4 hx ⟨s2, ds, hd, ld, pd⟩
      obtain ⟨c, hc, hxc⟩ := TG.paired_get hrs2 hx
      obtain ⟨ac, rfl, hac⟩ := hxc.same s2
      have hj := (List.getElem?_eq_some_iff.mp hc).1
      have big : ds.length < sizeLine := small1000 (by omega)
      have fin : ∀ (G6 : Hp) (z : V), Same G4 G6 → TupAt G6 z (c ++ [1]) → ∃ acc, G6 D1 = some (.lst acc) ∧ acc.length < sizeLine ∧ Same G2 (L2.upd G6 D1 (.lst (acc ++ [z]))) ∧ ∃ ds2, (L2.upd G6 D1 (.lst (acc ++ [z]))) D1 = some (.lst ds2) ∧ ds2.length = j + 1 ∧ Paired (TupAt (L2.upd G6 D1 (.lst (acc ++ [z])))) ds2 (((lchs k).map fun c => c ++ [1]).take (j + 1)) := by
        intro G6 z s6 hz
        have hd6 := s6 _ _ hd
        refine ⟨ds, hd6, big, same_put (s2.trans s6) hD1, ds ++ [z], upd_same, by rw [List.length_append, ld]; rfl, ?_⟩
        rw [take_more (x := c ++ [1]) (by rw [List.getElem?_map, hc]; rfl)]
        exact tups_push hd6 (tups_same pd s6) hz
      refine ⟨rfl, _, rfl, (by show 1 ≤ sizeLine; decide), fun u hu => ⟨ac, u, _, _, rfl, rfl, SqT.of (new_same hu _ _ hac), SqT.of upd_same, ?_, fun e => ?_, fun _ e => absurd e (List.cons_ne_nil _ _), fun _ _ p hp => ?_⟩⟩
      · have := (lok k (by omega)).2 c (List.mem_of_getElem? hc)
        rw [List.length_map, this.1]
        exact Nat.le_of_lt (small1000 (by show k + 1 ≤ 1000; omega))
      · have e2 : c = [] := List.map_eq_nil_iff.mp e
        subst e2
        exact fin _ _ (new_same hu) ⟨u, rfl, upd_same⟩
      · refine fin _ _ ((new_same hu).trans (new_same hp)) ⟨p, rfl, ?_⟩
        rw [upd_same, List.map_append]
        rfl
    rintro G3 ⟨s3, ds1, hds1, lds1, pds1⟩
    rw [TG.paired_len hrs2, List.take_of_length_le (by rw [List.length_map]; exact Nat.le_refl _)] at pds1
    refine ⟨D0, D1, ds0, ds1, rfl, rfl, s3 _ _ hds0, hds1, Nat.le_of_lt (small1000 (by have := TG.paired_len hrs; omega)), fun p hp => ?_⟩
    refine ⟨p, ds0 ++ ds1, _, _, rfl, upd_same, ?_, ((s1.trans s2).trans s3).trans (new_same hp)⟩
    have a1 := tups_same (tups_same pds0 s3) (new_same (o := .lst (ds0 ++ ds1)) hp)
    have a2 := tups_same pds1 (new_same (o := .lst (ds0 ++ ds1)) hp)
    exact paired_app a1 a2
  by_cases m0 : m = 0
  · refine ⟨_, (pss_cons (ps_set (i := 1) scLC.nd rfl (.inl rfl) (pe_lst (pa_cons (pe_tup pa_nil) pa_nil)))
      (pss_cons (ps_for PassesOwn.never rfl (pi_range1 (by rfl) T.b_range (pa_cons (pv 0) pa_nil)) (pg_name (i := 2) scLC.nd rfl (.inl rfl))
        (pss_one (ps_set (i := 1) scLC.nd rfl (.inl rfl) (pe_op op_cat (pe_lc (own := [("choice", 3)]) (g := (gName 3)) (by rfl) scLC.nd (pi_list (pv 1)) (blkOk_by (own := [("choice", 3)]) (N := ["many", "found", "turn", "choice"]) (sc := defScope sLC) (by decide +kernel)) (fun _ _ _ _ _ => (pg_name (i := 3) scLC.nd rfl (.inl rfl))) (fun _ _ _ _ _ => pts_nil) (fun _ _ _ _ _ => (pe_op (show OpR _ _ (rCatA K) from op_catA) (pv 3) (pe_tup (pa_cons pe_int pa_nil))))) (pe_lc (own := [("choice", 3)]) (g := (gName 3)) (by rfl) scLC.nd (pi_list (pv 1)) (blkOk_by (own := [("choice", 3)]) (N := ["many", "found", "turn", "choice"]) (sc := defScope sLC) (by decide +kernel)) (fun _ _ _ _ _ => (pg_name (i := 3) scLC.nd rfl (.inl rfl))) (fun _ _ _ _ _ => pts_nil) (fun _ _ _ _ _ => (pe_op (show OpR _ _ (rCatA K) from op_catA) (pv 3) (pe_tup (pa_cons pe_int pa_nil)))))))))
      (pss_one (ps_ret (pe_callB cr_sortSmall (by rfl) T.b_sorted (by decide +kernel) (pa_cons (pv 1) pa_nil)))))), go _ fun l rs H2 s2 hl prs _ => ?_⟩
    subst m0
    exact ⟨l, rs, rfl, SqL.of hl, by rw [TG.paired_len prs]; exact Nat.le_refl 1, fun p hp => q p rs _ (s2.trans (new_same hp)) (s2.free hp) upd_same (tups_same prs (new_same hp))⟩
  · refine ⟨_, (pss_cons (ps_set (i := 1) scLC.nd rfl (.inl rfl) (pe_lst (pa_cons (pe_tup pa_nil) pa_nil)))
      (pss_cons (ps_for PassesOwn.never rfl (pi_range1 (by rfl) T.b_range (pa_cons (pv 0) pa_nil)) (pg_name (i := 2) scLC.nd rfl (.inl rfl))
        (pss_one (ps_set (i := 1) scLC.nd rfl (.inl rfl) (pe_op op_cat (pe_lc (own := [("choice", 3)]) (g := (gName 3)) (by rfl) scLC.nd (pi_list (pv 1)) (blkOk_by (own := [("choice", 3)]) (N := ["many", "found", "turn", "choice"]) (sc := defScope sLC) (by decide +kernel)) (fun _ _ _ _ _ => (pg_name (i := 3) scLC.nd rfl (.inl rfl))) (fun _ _ _ _ _ => pts_nil) (fun _ _ _ _ _ => (pe_op (show OpR _ _ (rCatA K) from op_catA) (pv 3) (pe_tup (pa_cons pe_int pa_nil))))) (pe_lc (own := [("choice", 3)]) (g := (gName 3)) (by rfl) scLC.nd (pi_list (pv 1)) (blkOk_by (own := [("choice", 3)]) (N := ["many", "found", "turn", "choice"]) (sc := defScope sLC) (by decide +kernel)) (fun _ _ _ _ _ => (pg_name (i := 3) scLC.nd rfl (.inl rfl))) (fun _ _ _ _ _ => pts_nil) (fun _ _ _ _ _ => (pe_op (show OpR _ _ (rCatA K) from op_catA) (pv 3) (pe_tup (pa_cons pe_int pa_nil)))))))))
      (pss_one (ps_ret (pe_callB (cr_sortT (d := m) (B := 2) (Nat.pos_of_ne_zero m0)) (by rfl) T.b_sorted (by decide +kernel) (pa_cons (pv 1) pa_nil)))))), go _ fun l rs H2 s2 hl prs h8 => ?_⟩
    refine ⟨l, rs, rfl, SqL.of hl, by omega, fun x hx => ?_, fun ys p pm pw hp => ?_⟩
    · obtain ⟨i, hi⟩ := List.getElem?_of_mem hx
      obtain ⟨c, hc, t, rfl, ht⟩ := TG.paired_get prs hi
      obtain ⟨o1, o2⟩ := (lok m hm).2 c (List.mem_of_getElem? hc)
      exact ⟨c, ⟨t, rfl, SqT.of ht⟩, o1, o2⟩
    · obtain ⟨L, pL, pmL⟩ := paired_perm pm prs
      have e : L = chs m := by
        refine sorted_eq (TS.code 2) (pmL.trans (lchs_perm m hm)) (pairwise_paired (fun x y n n2 r1 r2 s => ?_) pL pw) (chs_sorted m hm)
        obtain ⟨t, rfl, ht⟩ := r1
        obtain ⟨t2, rfl, ht2⟩ := r2
        exact s _ _ ⟨t, rfl, SqT.of ht⟩ ⟨t2, rfl, SqT.of ht2⟩
      rw [e] at pL
      exact q p ys _ (s2.trans (new_same hp)) (s2.free hp) upd_same (tups_same pL (new_same hp))
end
end TF51
namespace TF51
open PySem PySem.Spec L2 TG TA
open PyProof.Rows hiding St
/-! ### terms, drawn; what they are worth -/
abbrev sTm : Stmt := top 34
abbrev sWo : Stmt := top 35
theorem scTm : FnScope ["sack", "choice", "most", "found", "total", "turn", "far", "powers", "sign", "share", "worth"] ["sack", "choice"] (defScope sTm) := ⟨rfl, rfl, rfl, by decide +kernel, rfl, by decide +kernel, by decide +kernel⟩
theorem scWo : FnScope ["terms", "numbers", "total", "powers", "share", "part", "number", "times"] ["terms", "numbers"] (defScope sWo) := ⟨rfl, rfl, rfl, by decide +kernel, rfl, by decide +kernel, by decide +kernel⟩
/-- the powers of numbers, multiplied -/
def prodp : List Int → List Int → Int
  | n :: ns, p :: ps => n ^ p.toNat * prodp ns ps
  | _, _ => 1
def wv (ns : List Int) (T : List (List Int × Int)) : Int := (T.map fun e => e.2 * prodp ns e.1).sum
def PwOk (x s : Int) : Prop := 0 ≤ x ∧ x ≤ 8 ∧ (s = 0 → x = 0)
def TOk (c : List Int) (e : List Int × Int) : Prop := Paired PwOk e.1 c ∧ 1 ≤ e.2 ∧ e.2 ≤ 1000000
def TermAt (H : Hp) (r : V) (e : List Int × Int) : Prop := ∃ t u, r = .ref t ∧ H t = some (.tup [.ref u, .int e.2]) ∧ H u = some (.lst (e.1.map V.int))
theorem TermAt.same {H H2 : Hp} {r : V} {e : List Int × Int} (h : TermAt H r e) (s : Same H H2) : TermAt H2 r e := by
  obtain ⟨t, u, e1, h1, h2⟩ := h
  exact ⟨t, u, e1, s _ _ h1, s _ _ h2⟩
theorem ints_ne {n : Nat} {H : Hp} {p c u : Addr} {l : List Int} (hp : PenAt n H p c) (h : H u = some (.lst (l.map V.int))) : u ≠ p := by
  obtain ⟨cells, i, g, h1, _⟩ := hp
  intro z
  subst z
  rw [h1] at h
  cases l with
  | nil => cases h
  | cons x l => cases h
theorem tup_ne {n : Nat} {H : Hp} {p c t : Addr} {xs : List V} (hp : PenAt n H p c) (h : H t = some (.tup xs)) : t ≠ p := by
  obtain ⟨cells, i, g, h1, _⟩ := hp
  intro z
  subst z
  rw [h1] at h
  cases h
theorem TermAt.keep {n : Nat} {H H2 : Hp} {p c : Addr} {r : V} {e : List Int × Int} (h : TermAt H r e) (hp : PenAt n H p c) (k : Keep p H H2) : TermAt H2 r e := by
  obtain ⟨t, u, e1, h1, h2⟩ := h
  exact ⟨t, u, e1, k _ _ (tup_ne hp h1) h1, k _ _ (ints_ne hp h2) h2⟩
def TermsAt (H : Hp) (l : Addr) (T : List (List Int × Int)) : Prop := ∃ rs, H l = some (.lst rs) ∧ Paired (TermAt H) rs T
theorem pow_cap {n : Int} {e k m : Nat} (h0 : 0 ≤ n) (h : n ≤ 2 ^ e) (hk : k ≤ m) : n ^ k ≤ 2 ^ (e * m) := by
  obtain ⟨x, rfl⟩ : ∃ x : Nat, n = (x : Int) := ⟨n.toNat, by omega⟩
  have h1 : x ≤ 2 ^ e := by
    have h3 : ((2 ^ e : Nat) : Int) = (2 : Int) ^ e := by rw [Int.natCast_pow]; rfl
    omega
  have h2 : x ^ k ≤ 2 ^ (e * m) := Nat.le_trans (Nat.pow_le_pow_left h1 k) (by rw [← Nat.pow_mul]; exact Nat.pow_le_pow_right (by decide) (Nat.mul_le_mul_left e hk))
  have h3 : ((2 ^ (e * m) : Nat) : Int) = (2 : Int) ^ (e * m) := by rw [Int.natCast_pow]; rfl
  have h4 : ((x ^ k : Nat) : Int) = (x : Int) ^ k := Int.natCast_pow x k
  omega
/-- the same, none of its lists among those of S -/
def TermX (S : Addr → Prop) (H : Hp) (r : V) (e : List Int × Int) : Prop := ∃ t u, r = .ref t ∧ H t = some (.tup [.ref u, .int e.2]) ∧ H u = some (.lst (e.1.map V.int)) ∧ ¬ S u
def TermsX (S : Addr → Prop) (H : Hp) (l : Addr) (T : List (List Int × Int)) : Prop := ¬ S l ∧ ∃ rs, H l = some (.lst rs) ∧ Paired (TermX S H) rs T
theorem TermX.at {S : Addr → Prop} {H : Hp} {r : V} {e : List Int × Int} (h : TermX S H r e) : TermAt H r e := by
  obtain ⟨t, u, e1, h1, h2, _⟩ := h
  exact ⟨t, u, e1, h1, h2⟩
theorem TermX.same {S : Addr → Prop} {H H2 : Hp} {r : V} {e : List Int × Int} (h : TermX S H r e) (s : Same H H2) : TermX S H2 r e := by
  obtain ⟨t, u, e1, h1, h2, h3⟩ := h
  exact ⟨t, u, e1, s _ _ h1, s _ _ h2, h3⟩
theorem TermX.keep {S : Addr → Prop} {n : Nat} {H H2 : Hp} {p c : Addr} {r : V} {e : List Int × Int} (h : TermX S H r e) (hp : PenAt n H p c) (k : Keep p H H2) : TermX S H2 r e := by
  obtain ⟨t, u, e1, h1, h2, h3⟩ := h
  exact ⟨t, u, e1, k _ _ (tup_ne hp h1) h1, k _ _ (ints_ne hp h2) h2, h3⟩
theorem TermX.upd {S : Addr → Prop} {H : Hp} {r : V} {e : List Int × Int} {D : Addr} {xs ys : List V} (h : TermX S H r e) (hS : S D) (hD : H D = some (.lst xs)) : TermX S (L2.upd H D (.lst ys)) r e := by
  obtain ⟨t, u, e1, h1, h2, h3⟩ := h
  refine ⟨t, u, e1, ?_, ?_, h3⟩
  · rw [upd_ne fun z => by subst z; rw [hD] at h1; cases h1]
    exact h1
  · rw [upd_ne fun z => h3 (by rw [z]; exact hS)]
    exact h2
theorem TermsX.at {S : Addr → Prop} {H : Hp} {l : Addr} {T : List (List Int × Int)} (h : TermsX S H l T) : TermsAt H l T := by
  obtain ⟨_, rs, h1, h2⟩ := h
  exact ⟨rs, h1, paired_imp (fun _ _ r => r.at) h2⟩
theorem TermsX.same {S : Addr → Prop} {H H2 : Hp} {l : Addr} {T : List (List Int × Int)} (h : TermsX S H l T) (s : Same H H2) : TermsX S H2 l T := by
  obtain ⟨h0, rs, h1, h2⟩ := h
  exact ⟨h0, rs, s _ _ h1, paired_imp (fun _ _ r => r.same s) h2⟩
theorem TermsX.keep {S : Addr → Prop} {n : Nat} {H H2 : Hp} {p c l : Addr} {T : List (List Int × Int)} (h : TermsX S H l T) (hp : PenAt n H p c) (k : Keep p H H2) (hS : S p) : TermsX S H2 l T := by
  obtain ⟨h0, rs, h1, h2⟩ := h
  exact ⟨h0, rs, k _ _ (fun z => h0 (by rw [z]; exact hS)) h1, paired_imp (fun _ _ r => r.keep hp k) h2⟩
theorem TermsX.upd {S : Addr → Prop} {H : Hp} {l D : Addr} {T : List (List Int × Int)} {xs ys : List V} (h : TermsX S H l T) (hS : S D) (hD : H D = some (.lst xs)) : TermsX S (L2.upd H D (.lst ys)) l T := by
  obtain ⟨h0, rs, h1, h2⟩ := h
  refine ⟨h0, rs, ?_, paired_imp (fun _ _ r => r.upd hS hD) h2⟩
  rw [upd_ne fun z => h0 (by rw [z]; exact hS)]
  exact h1
def lawMost (c : List Int) : Int := ([50, 1000000000000000000, 10000, 200] : List Int).getD c.sum.toNat 0
def spTm : Sp := fun vs H Q _ => ∃ (p c a : Addr) (ch : List Int) (n : Nat), vs = [.ref p, .ref a] ∧ PenAt n H p c ∧ n ≤ 90000 ∧ H a = some (.tup (ch.map V.int)) ∧ (∀ s ∈ ch, s = 0 ∨ s = 1) ∧ ch.length ≤ 3 ∧
  ∀ (l : Addr) (T : List (List Int × Int)) (H' : Hp), Keep p H H' → PenAt (n + 50) H' p c → TermsX (fun x => H x ≠ none) H' l T → T.length ≤ 4 → (∀ e ∈ T, TOk ch e) → wv (ch.map fun s => 2 * s) T ≤ lawMost ch → Q (.ref l) H'
def spWo : Sp := fun vs H Q _ => ∃ (l a : Addr) (T : List (List Int × Int)) (ns ch : List Int), vs = [.ref l, .ref a] ∧ TermsAt H l T ∧ H a = some (.tup (ns.map V.int)) ∧ T.length ≤ 4 ∧ (∀ e ∈ T, TOk ch e) ∧ ns.length = ch.length ∧ ch.length ≤ 3 ∧ (∀ n ∈ ns, 0 ≤ n ∧ n ≤ 2 ^ 4200) ∧
  ∀ H', Same H H' → Q (.int (wv ns T)) H'
section
variable {P : Program} {w : World} {K : PySem.W.Frag} {mg : Str → Option Value} {base : Heap} {f f1 f2 f3 : Addr} {fd fd1 fd2 fd3 : FuncData}
theorem ok_wo (F : Fun K "_law_worth" "_law_worth" sWo f fd) (T : Bn mg) (D__law_power : Df K mg "_law_power" sPw f1 fd1 ["number", "times"]) (G__law_power : FnOk P w K mg base CX0 1 f1 fd1 ["number", "times"] spPw) : FnOk P w K mg base CX0 2 f fd ["terms", "numbers"] spWo := by
  refine F.ok scWo (fun vs H Q E h => ?_) (fun cdv A outer s H vs Q E hr h => ?_)
  · obtain ⟨l, a, T, ns, ch, rfl, _⟩ := h
    rfl
  obtain ⟨l, a, Tm, ns, ch, rfl, ⟨rs, hl, prs⟩, ha, hT, hok, hns, hch, hb, q⟩ := h
  refine ⟨_, (pss_cons (ps_set (i := 2) scWo.nd rfl (.inl rfl) pe_int)
      (pss_cons (ps_for PassesOwn.never rfl (pi_list (pv 0)) (pg_tup (by rfl) (pgs_cons (pg_name (i := 3) scWo.nd rfl (.inl rfl)) (pgs_cons (pg_name (i := 4) scWo.nd rfl (.inl rfl)) pgs_nil)))
        (pss_cons (ps_set (i := 5) scWo.nd rfl (.inl rfl) (pv 4))
        (pss_cons (ps_for PassesOwn.never rfl (pi_zipX (by rfl) T.b_zip (pa_cons (pv 1) (pa_cons (pv 3) pa_nil))) (pg_tup (by rfl) (pgs_cons (pg_name (i := 6) scWo.nd rfl (.inl rfl)) (pgs_cons (pg_name (i := 7) scWo.nd rfl (.inl rfl)) pgs_nil)))
          (pss_one (ps_set (i := 5) scWo.nd rfl (.inl rfl) (pe_op op_mulW (pv 5) (pe_cd D__law_power G__law_power hr (by decide) (pa_cons (pv 6) (pa_cons (pv 7) pa_nil)))))))
        (pss_one (ps_set (i := 2) scWo.nd rfl (.inl rfl) (pe_op op_add (pv 2) (pv 5)))))))
      (pss_one (ps_ret (pv 2))))), ?_⟩
  refine ⟨_, rfl, l, rfl, ⟨_, SqL.of hl⟩, ?_⟩
  refine for_list (K := K) (a := l) (xs := rs) (fun j σ G => Same H G ∧ ∃ v3 v4 v5 v6 v7, σ = [some (.ref l), some (.ref a), some (.int (wv ns (Tm.take j))), v3, v4, v5, v6, v7]) ⟨fun _ _ e => e, _, _, _, _, _, rfl⟩ ?_ ?_ ?_
  · rintro j σ G _ ⟨s1, _⟩
    exact SqL.of (s1 _ _ hl)
  · rintro j x σ G hx ⟨s1, v3, v4, v5, v6, v7, rfl⟩
    obtain ⟨⟨ps, sh⟩, he, r⟩ := TG.paired_get prs hx
    obtain ⟨pp, sh1, sh2⟩ := hok _ (List.mem_of_getElem? he)
    obtain ⟨t, u, rfl, ht, hu⟩ := r.same s1
    have lp : ps.length = ch.length := TG.paired_len pp
    refine ⟨t, _, rfl, SqT.of ht, rfl, _, _, rfl, _, _, rfl, rfl, _, rfl, _, rfl, _, rfl, a, u, _, _, rfl, .inr (SqT.of (s1 _ _ ha)), .inl (SqL.of hu), fun J GG wk hGG => ?_⟩
    show ∃ W : Nat → Nat → L2.St → Hp → Prop, _
    have p0 : ∀ (i : Nat) (y : Int), ps[i]? = some y → 0 ≤ y ∧ y ≤ 8 := fun i y hy => by
      obtain ⟨s, _, h1, h2, _⟩ := TG.paired_get pp hy
      exact ⟨h1, h2⟩
    refine for_it wk (fun i σ G2 => Same G G2 ∧ ∃ (part : Int) (v6 v7 : Option V), σ = [some (.ref l), some (.ref a), some (.int (wv ns (Tm.take j))), some (.ref u), some (.int sh), some (.int part), v6, v7] ∧ part * prodp (ns.drop i) (ps.drop i) = sh * prodp ns ps ∧ 0 ≤ part ∧ part ≤ 2 ^ (20 + i * 33600)) ?_ ?_ ?_ ?_
    · refine ⟨fun _ _ e => e, sh, _, _, rfl, rfl, by omega, ?_⟩
      show sh ≤ 2 ^ 20
      omega
    · rintro i σ G2 _ ⟨s2, _⟩
      exact hGG G2 (fun o e => s2 _ _ e) fun o e => s2 _ _ e
    · rintro i x σ G2 G3 hi ⟨s2, part, v6, v7, rfl, e1, p1, p2⟩ ⟨t2, x2, y2, rfl, ht2, rfl, hx2, hy2⟩
      have hx2 : (ns.map V.int)[i]? = some x2 := hx2
      have hy2 : (ps.map V.int)[i]? = some y2 := hy2
      rw [List.getElem?_map] at hx2 hy2
      obtain ⟨n, hn, rfl⟩ := Option.map_eq_some_iff.mp hx2
      obtain ⟨y, hy, rfl⟩ := Option.map_eq_some_iff.mp hy2
      obtain ⟨n0, n1⟩ := hb n (List.mem_of_getElem? hn)
      obtain ⟨y0, y8⟩ := p0 i y hy
      have i3 : i < 3 := by
        have := (List.getElem?_eq_some_iff.mp hn).1
        omega
      obtain ⟨k, rfl⟩ : ∃ k : Nat, y = (k : Int) := ⟨y.toNat, by omega⟩
      have k8 : k ≤ 8 := by omega
      refine ⟨t2, _, rfl, SqT.of upd_same, rfl, _, _, rfl, _, _, rfl, rfl, _, rfl, _, rfl, _, rfl, n, k, 4200, rfl, n0, n1, by omega, by omega, _, _, rfl, rfl, ?_, s2.trans (new_same ht2), _, _, _, rfl, ?_, Int.mul_nonneg p1 (Int.pow_nonneg n0), ?_⟩
      · have m1 := pow_abs p1 p2 1
        rw [Int.pow_one] at m1
        have m2 := pow_abs n0 n1 k
        exact wide_mul m1 m2 (by omega) (by omega) (by omega)
      · rw [drop_at hn, drop_at hy] at e1
        rw [← e1]
        show _ = part * (n ^ ((k : Int)).toNat * _)
        rw [Int.toNat_natCast, Int.mul_assoc]
      · have m3 : n ^ k ≤ (2 : Int) ^ 33600 := pow_cap (m := 8) n0 n1 k8
        have e4 : (20 + (i + 1) * 33600) = (20 + i * 33600) + 33600 := by omega
        rw [e4, Int.pow_add]
        exact Int.mul_le_mul p2 m3 (Int.pow_nonneg n0) (Int.pow_nonneg (by decide))
    · rintro σ G2 ⟨s2, part, v6, v7, rfl, e1, p1, p2⟩
      have e5 : part = sh * prodp ns ps := by
        rw [List.length_map, List.length_map, show min ns.length ps.length = ns.length from by omega, List.drop_length] at e1
        rw [← e1]
        show part = part * 1
        rw [Int.mul_one]
      subst e5
      refine ⟨_, rfl, _, rfl, _, _, rfl, rfl, s1.trans s2, some (.ref u), some (.int sh), some (.int (sh * prodp ns ps)), v6, v7, ?_⟩
      have e6 : wv ns (Tm.take (j + 1)) = wv ns (Tm.take j) + sh * prodp ns ps := by
        unfold wv
        rw [take_more he, List.map_append, List.sum_append]
        simp
      rw [e6]
      rfl
  · rintro σ G ⟨s1, v3, v4, v5, v6, v7, rfl⟩
    rw [TG.paired_len prs, List.take_length]
    exact ⟨_, rfl, q G s1⟩
end
end TF51
namespace TF51
open PySem PySem.Spec L2 TG TA
open PyProof.Rows hiding St
theorem ite_tC {c : Bool} {x y : V} {σ : L2.St} {H : Hp} {Q : VK} (h : ∀ z, z = x ∨ z = y → Q z H) : if c = true then tC x σ H Q else tC y σ H Q := by
  cases c
  · exact h y (.inr rfl)
  · exact h x (.inl rfl)
theorem ite_two {A : Prop} {c : Bool} {x y : V} {σ : L2.St} {H : Hp} {Q : VK} (ha : Q x H → A) (h : ∀ z, z = x ∨ z = y → Q z H) : if c = true then A else tC y σ H Q := by
  cases c
  · exact h y (.inr rfl)
  · exact ha (h x (.inl rfl))
theorem prodp_twos : ∀ {ps ch : List Int}, Paired PwOk ps ch → (∀ s ∈ ch, s = 0 ∨ s = 1) → 0 ≤ ps.sum ∧ ps.sum ≤ 8 * ps.length ∧ prodp (ch.map fun s => 2 * s) ps = 2 ^ ps.sum.toNat
  | _, _, .nil, _ => ⟨Int.le_refl _, Int.le_refl _, rfl⟩
  | p :: ps, s :: ch, .cons ⟨h0, h8, hz⟩ t, h => by
    obtain ⟨i1, i2, i3⟩ := prodp_twos t fun x hx => h x (List.mem_cons_of_mem _ hx)
    rw [List.sum_cons, List.length_cons]
    refine ⟨by omega, by omega, ?_⟩
    show (2 * s) ^ p.toNat * prodp (ch.map fun s => 2 * s) ps = _
    rw [i3]
    rcases h s List.mem_cons_self with rfl | rfl
    · have : p = 0 := hz rfl
      subst this
      show (2 * 0 : Int) ^ (0 : Int).toNat * _ = _
      rw [Int.zero_add]
      show (1 : Int) * _ = _
      rw [Int.one_mul]
    · rw [show (2 * 1 : Int) = 2 from rfl, ← Int.pow_add]
      congr 1
      omega
theorem paired_mem {α β : Type} {R S : α → β → Prop} : ∀ {xs : List α} {ys : List β}, (∀ x y, x ∈ xs → R x y → S x y) → Paired R xs ys → Paired S xs ys
  | _, _, _, .nil => .nil
  | _, _, h, .cons r t => .cons (h _ _ List.mem_cons_self r) (paired_mem (fun x y m => h x y (List.mem_cons_of_mem _ m)) t)
theorem terms_push {S : Addr → Prop} {G : Hp} {F : Addr} {rs ys : List V} {T : List (List Int × Int)} (hF : G F = some (.lst rs)) (h : Paired (TermX S G) rs T) : Paired (TermX S (L2.upd G F (.lst ys))) rs T := by
  refine paired_mem (fun r e m ht => ?_) h
  obtain ⟨t, u, rfl, h1, h2, h3⟩ := ht
  refine ⟨t, u, rfl, ?_, ?_, h3⟩
  · rw [upd_ne fun z => by subst z; rw [hF] at h1; cases h1]
    exact h1
  · rw [upd_ne fun z => ?_]
    · exact h2
    · subst z
      have e2 := HO.lst.inj (Option.some.inj (hF.symm.trans h2))
      rw [e2] at m
      obtain ⟨_, _, e3⟩ := List.mem_map.mp m
      cases e3
theorem paired_snoc2 {α β : Type} {R : α → β → Prop} {xs : List α} {ys : List β} {j : Nat} {x : α} {y : β} (h : Paired R xs (ys.take j)) (e : ys[j]? = some y) (r : R x y) : Paired R (xs ++ [x]) (ys.take (j + 1)) := by
  rw [take_more e]
  exact paired_snoc r h
section
variable {P : Program} {w : World} {K : PySem.W.Frag} {mg : Str → Option Value} {base : Heap} {f f1 f2 f3 : Addr} {fd fd1 fd2 fd3 : FuncData}
theorem ok_tm (F : Fun K "_law_terms" "_law_terms" sTm f fd) (T : Bn mg) (D__law_power : Df K mg "_law_power" sPw f1 fd1 ["number", "times"]) (G__law_power : FnOk P w K mg base CX0 1 f1 fd1 ["number", "times"] spPw)
    (D__law_take : Df K mg "_law_take" sDraw f2 fd2 ["sack", "many"]) (G__law_take : FnOk P w K mg base CX0 1 f2 fd2 ["sack", "many"] spDraw)
    (D__law_pick : Df K mg "_law_pick" sPick f3 fd3 ["sack", "some"]) (G__law_pick : FnOk P w K mg base CX0 2 f3 fd3 ["sack", "some"] (spPick K)) : FnOk P w K mg base CX0 3 f fd ["sack", "choice"] spTm := by
  refine F.ok scTm (fun vs H Q E h => ?_) (fun cdv A outer s H vs Q E hr h => ?_)
  · obtain ⟨p, c, a, ch, n, rfl, _⟩ := h
    rfl
  obtain ⟨p, c, a, ch, n, rfl, hp, hn, ha, h01, h3, q⟩ := h
  obtain ⟨u1, u2, _⟩ := sum_01 h01
  have na := tup_ne hp ha
  refine ⟨_, (pss_cons (ps_par3 (i := 2) (j := 3) (l := 4) (by rfl) scTm.nd rfl rfl rfl (by decide) (by decide) (by decide) rfl rfl rfl (pa_cons (pe_ix ix_list (pe_lst (pa_cons pe_int (pa_cons (pe_op op_pow pe_int pe_int) (pa_cons (pe_op op_pow pe_int pe_int) (pa_cons pe_int pa_nil))))) (pe_callB (cr_sumT rfl) (by rfl) T.b_sum (by decide +kernel) (pa_cons (pv 1) pa_nil)) (fun _ _ => rfl)) (pa_cons (pe_lst pa_nil) (pa_cons pe_int pa_nil))) (by rfl))
      (pss_cons (ps_for PassesOwn.never rfl (pi_range1 (by rfl) T.b_range (pa_cons (pe_cd D__law_take G__law_take hr (by decide) (pa_cons (pv 0) (pa_cons pe_int pa_nil))) pa_nil)) (pg_name (i := 5) scTm.nd rfl (.inl rfl))
        (pss_cons (ps_set (i := 6) scTm.nd rfl (.inr rfl) (pe_cd D__law_pick G__law_pick hr (by decide) (pa_cons (pv 0) (pa_cons (pe_lst (pa_cons pe_int (pa_cons pe_int (pa_cons pe_int (pa_cons (pe_ifExp (pt_cmpR op_eq (pe_callB (cr_sumT rfl) (by rfl) T.b_sum (by decide +kernel) (pa_cons (pv 1) pa_nil)) pe_int (nomark _)) pe_int pe_int) pa_nil))))) pa_nil))))
        (pss_cons (ps_setLc (i := 7) (own := [("sign", 8)]) (g := (gName 8)) rfl scTm.nd rfl rfl (sw_true rfl rfl rfl (by decide +kernel)) (pi_tup (pv 1)) (blkOk_by (own := [("sign", 8)]) (N := ["sack", "choice", "most", "found", "total", "turn", "far", "powers", "sign", "share", "worth"]) (sc := defScope sTm) (by decide +kernel)) (fun _ _ _ _ _ => (pg_name (i := 8) scTm.nd rfl (.inl rfl))) (fun _ _ _ _ _ => pts_nil) (fun _ _ _ _ _ => (pe_op op_mul (pe_cd D__law_take G__law_take hr (by decide) (pa_cons (pv 0) (pa_cons (pe_op op_add (pv 6) pe_int) pa_nil))) (pv 8))))
        (pss_cons (ps_set (i := 9) scTm.nd rfl (.inl rfl) (pe_op op_add pe_int (pe_cd D__law_take G__law_take hr (by decide) (pa_cons (pv 0) (pa_cons (pe_cd D__law_pick G__law_pick hr (by decide) (pa_cons (pv 0) (pa_cons (pe_lst (pa_cons pe_int (pa_cons pe_int (pa_cons pe_int (pa_cons (pe_ifExp (pt_cmpR op_eq (pe_callB (cr_sumT rfl) (by rfl) T.b_sum (by decide +kernel) (pa_cons (pv 1) pa_nil)) pe_int (nomark _)) (pe_op op_pow pe_int pe_int) pe_int) pa_nil))))) pa_nil))) pa_nil)))))
        (pss_cons (ps_set (i := 10) scTm.nd rfl (.inl rfl) (pe_op op_mulW (pv 9) (pe_cd D__law_power G__law_power hr (by decide) (pa_cons pe_int (pa_cons (pe_callB (cr_sum rfl) (by rfl) T.b_sum (by decide +kernel) (pa_cons (pv 7) pa_nil)) pa_nil)))))
        (pss_one (ps_if (pt_cmpR op_le (pe_op op_add (pv 4) (pv 10)) (pv 2) (nomark _)) (pss_cons (ps_set (i := 4) scTm.nd rfl (.inl rfl) (pe_op op_add (pv 4) (pv 10)))
          (pss_one (ps_expr (pe_bm PySem.F.plainAttrs_list PySem.F.slot_list_append PySem.F.type_list_append mt_append (pv 3) (pa_cons (pe_tup (pa_cons (pv 7) (pa_cons (pv 9) pa_nil))) pa_nil))))) pss_nil)))))))
      (pss_one (ps_ret (pv 3))))), ?_⟩
  refine ⟨_, _, rfl, rfl, ⟨by decide, by decide, by decide⟩, _, _, rfl, rfl, ⟨by decide, by decide, by decide⟩, (by show 4 ≤ sizeLine; decide), fun L hL => ?_⟩
  have sL := new_same (o := .lst [.int 50, .int (10 ^ (18 : Int).toNat), .int (10 ^ (4 : Int).toNat), .int 200]) hL
  have hat : atI ([.int 50, .int (10 ^ (18 : Int).toNat), .int (10 ^ (4 : Int).toNat), .int 200] : List V) ch.sum = some (.int (lawMost ch)) := by
    have e : ch.sum = ((ch.sum.toNat : Nat) : Int) := by omega
    have r4 : ch.sum.toNat < 4 := by omega
    rw [e]
    refine atI_nat ?_
    unfold lawMost
    generalize ch.sum.toNat = k at r4
    match k, r4 with
    | 0, _ => rfl
    | 1, _ => rfl
    | 2, _ => rfl
    | 3, _ => rfl
  refine ⟨_, rfl, a, ch, rfl, SqT.of (sL _ _ ha), L, _, _, _, rfl, rfl, SqL.of upd_same, hat, (by show 0 ≤ sizeLine; decide), fun F2 hF => ?_⟩
  have s1 := sL.trans (new_same (o := .lst []) hF)
  have hF1 : (L2.upd (L2.upd H L (.lst [.int 50, .int (10 ^ (18 : Int).toNat), .int (10 ^ (4 : Int).toNat), .int 200])) F2 (.lst [])) F2 = some (.lst []) := upd_same
  have hFp : F2 ≠ p := (hp.same sL).ne hF
  have hFc : F2 ≠ c := (hp.same sL).ne2 hF
  have hFH : H F2 = none := sL.free hF
  generalize L2.upd (L2.upd H L (.lst [.int 50, .int (10 ^ (18 : Int).toNat), .int (10 ^ (4 : Int).toNat), .int 200])) F2 (.lst []) = H1 at s1 hF1 ⊢
  generalize hmost : lawMost ch = most
  refine ⟨_, _, _, rfl, ?_⟩
  refine ⟨_, rfl, p, c, 5, n, rfl, hp.same s1, by omega, Dv.of (by decide) (by decide), fun r G r0 r5 k1 hp1 => ⟨r, rfl, by omega, by omega, ?_⟩⟩
  obtain ⟨R, rfl⟩ : ∃ R : Nat, r = (R : Int) := ⟨r.toNat, by omega⟩
  have kH1 := (Keep.of_same s1).trans k1
  refine for_range (lo := 0) (n := (R : Int).toNat) (fun i σ G2 => ∃ (Tm : List (List Int × Int)) (rs : List V) (total : Int) (v5 v6 v7 v9 v10 : Option V), σ = [some (.ref p), some (.ref a), some (.int most), some (.ref F2), some (.int total), v5, v6, v7, none, v9, v10] ∧
    Keep p H G2 ∧ PenAt (n + 1 + 10 * i) G2 p c ∧ G2 F2 = some (.lst rs) ∧ Paired (TermX (fun x => H x ≠ none) G2) rs Tm ∧ Tm.length ≤ i ∧ (∀ e ∈ Tm, TOk ch e) ∧ wv (ch.map fun s => 2 * s) Tm = total ∧ 0 ≤ total ∧ total ≤ most) ?_ ?_ ?_
  · refine ⟨[], [], 0, _, _, _, _, _, rfl, kH1, hp1, k1 _ _ hFp hF1, .nil, Nat.le_refl _, fun e he => absurd he List.not_mem_nil, rfl, Int.le_refl _, ?_⟩
    rw [← hmost]
    unfold lawMost
    have r4 : ch.sum.toNat < 4 := by omega
    generalize ch.sum.toNat = k at r4
    match k, r4 with
    | 0, _ => decide
    | 1, _ => decide
    | 2, _ => decide
    | 3, _ => decide
  · rintro i σ G2 hi ⟨Tm, rs, total, v5, v6, v7, v9, v10, rfl, k2, hp2, hF2, prs, lT, hT, hw, t0, tm⟩
    have i5 : i < 5 := by omega
    have ha2 := k2 _ _ na ha
    have lrs := TG.paired_len prs
    refine ⟨_, rfl, _, rfl, a, ch, rfl, SqT.of ha2, rfl, _, rfl, ite_tC fun z hz => ⟨(by show 4 ≤ sizeLine; decide), fun X hX => ?_⟩⟩
    have sX := new_same (o := .lst [.int 2, .int 3, .int 1, z]) hX
    refine ⟨p, c, X, _, n + 1 + 10 * i, rfl, hp2.same sX, by omega, hp2.ne hX, upd_same, by simp, by show 4 ≤ 1000000; decide, fun v G3 hv k3 hp3 => ?_⟩
    obtain ⟨far, rfl, far1, far8⟩ : ∃ far : Nat, v = .int (far : Int) ∧ 1 ≤ far ∧ far ≤ 8 := by
      rcases List.mem_cons.mp hv with rfl | hv
      · exact ⟨2, rfl, by decide, by decide⟩
      rcases List.mem_cons.mp hv with rfl | hv
      · exact ⟨3, rfl, by decide, by decide⟩
      rcases List.mem_cons.mp hv with rfl | hv
      · exact ⟨1, rfl, by decide, by decide⟩
      cases List.mem_singleton.mp hv
      rcases hz with rfl | rfl
      · exact ⟨8, rfl, by decide, by decide⟩
      · exact ⟨4, rfl, by decide, by decide⟩
    have k23 := (Keep.of_same sX).trans k3
    have ha3 := k23 _ _ na ha2
    refine ⟨_, rfl, a, rfl, ⟨_, SqT.of ha3⟩, fun D hD => ?_⟩
    have nD := hp3.ne hD
    have nDc := hp3.ne2 hD
    have hDH : H D = none := by
      cases e : H D with
      | none => rfl
      | some o => exact absurd ((k23 _ _ nD (k2 _ _ nD e)).symm.trans hD) (fun z => nomatch z)
    have nFD : F2 ≠ D := ne_of_none (k23 _ _ hFp hF2) hD
    refine lc_tup (K := K) (a := a) (xs := ch.map V.int) (fun j G4 => Keep p G3 G4 ∧ PenAt (n + 1 + 10 * i + 1 + j) G4 p c ∧ ∃ ps, G4 D = some (.lst (ps.map V.int)) ∧ Paired PwOk ps (ch.take j)) ?_ ?_ ?_ ?_
    · exact ⟨Keep.new hD, hp3.same (new_same hD), [], upd_same, .nil⟩
    · rintro j G4 _ ⟨k4, _⟩
      exact SqT.of (k4 _ _ na ha3)
    · rintro j x G4 hx ⟨k4, hp4, ps, hd, pps⟩
      rw [List.getElem?_map] at hx
      obtain ⟨s, hs, rfl⟩ := Option.map_eq_some_iff.mp hx
      have hj := (List.getElem?_eq_some_iff.mp hs).1
      have lps := TG.paired_len pps
      rw [List.length_take] at lps
      refine ⟨rfl, _, rfl, _, rfl, _, _, rfl, rfl, p, c, _, n + 1 + 10 * i + 1 + j, rfl, hp4, by omega, Dv.of (by omega) (by omega), fun y G5 y0 y1 k5 hp5 => ⟨_, rfl, _, _, rfl, rfl, .inl ⟨by omega, by omega⟩, _, k5 _ _ nD hd, ?_, ?_, ?_, ps ++ [y * s], ?_, ?_⟩⟩
      · rw [List.length_map]
        exact small1000 (by omega)
      · intro b o nb hb
        rw [upd_ne (ne_of_none hb hD)]
        exact k5 _ _ nb (k4 _ _ nb hb)
      · exact hp5.upd nD nDc
      · rw [upd_same, List.map_append]
        rfl
      · refine paired_snoc2 pps hs ?_
        rcases h01 s (List.mem_of_getElem? hs) with rfl | rfl
        · exact ⟨by omega, by omega, fun _ => by omega⟩
        · exact ⟨by omega, by omega, fun z => by omega⟩
    rintro G4 ⟨k4, hp4, ps, hd, pps⟩
    rw [List.length_map] at hp4 pps
    rw [List.take_length] at pps
    have lps := TG.paired_len pps
    obtain ⟨w1, w2, w3⟩ := prodp_twos pps h01
    have k24 := k23.trans k4
    have ha4 := k24 _ _ na ha2
    refine ⟨_, rfl, _, rfl, _, rfl, a, ch, rfl, SqT.of ha4, rfl, _, rfl, ite_two (x := .int (10 ^ (6 : Int).toNat)) (fun h => ⟨_, _, rfl, rfl, ⟨by decide, by decide, by decide⟩, h⟩) fun z hz => ⟨(by show 4 ≤ sizeLine; decide), fun Y hY => ?_⟩⟩
    have sY := new_same (o := .lst [.int 1, .int 3, .int 30, z]) hY
    refine ⟨p, c, Y, _, n + 1 + 10 * i + 1 + ch.length, rfl, hp4.same sY, by omega, hp4.ne hY, upd_same, by simp, by show 4 ≤ 1000000; decide, fun v G5 hv k5 hp5 => ?_⟩
    obtain ⟨m, rfl, m1, m2⟩ : ∃ m : Int, v = .int m ∧ 1 ≤ m ∧ m ≤ 1000000 := by
      rcases List.mem_cons.mp hv with rfl | hv
      · exact ⟨1, rfl, by decide, by decide⟩
      rcases List.mem_cons.mp hv with rfl | hv
      · exact ⟨3, rfl, by decide, by decide⟩
      rcases List.mem_cons.mp hv with rfl | hv
      · exact ⟨30, rfl, by decide, by decide⟩
      cases List.mem_singleton.mp hv
      rcases hz with rfl | rfl
      · exact ⟨_, rfl, by decide, by decide⟩
      · exact ⟨9, rfl, by decide, by decide⟩
    refine ⟨p, c, m, n + 1 + 10 * i + 1 + ch.length + 1, rfl, hp5, by omega, Dv.of (by omega) (by omega), fun y G6 y0 y1 k6 hp6 => ⟨_, _, rfl, rfl, ?_⟩⟩
    have k46 := ((Keep.of_same sY).trans k5).trans k6
    have hd6 := k46 _ _ nD hd
    have k26 := k24.trans k46
    have hF6 := k26 _ _ hFp hF2
    obtain ⟨e2, he2⟩ : ∃ e2 : Nat, ps.sum = (e2 : Int) := ⟨ps.sum.toNat, by omega⟩
    have e24 : e2 ≤ 24 := by omega
    refine ⟨_, rfl, _, rfl, D, ps, rfl, SqL.of hd6, 2, e2, 1, by rw [he2]; rfl, by decide, by decide, by omega, by omega, _, _, rfl, rfl, ?_, ?_⟩
    · have b1 : (1 + y).natAbs < 2 ^ 20 := by omega
      have b2 := pow_abs (n := 2) (e := 1) (by decide) (by decide) e2
      exact wide_mul b1 b2 (by omega) (by omega) (by omega)
    have hpF : PenAt (n + 1 + 10 * (i + 1)) G6 p c := hp6.up (by omega)
    have prs6 : Paired (TermX (fun x => H x ≠ none) G6) rs Tm := paired_imp (fun _ _ r => r.keep hp2 k26) prs
    have pw0 : (0 : Int) ≤ 2 ^ e2 := Int.pow_nonneg (by decide)
    have wt0 : 0 ≤ (1 + y) * 2 ^ e2 := Int.mul_nonneg (by omega) pw0
    refine ⟨_, rfl, _, rfl, _, _, rfl, rfl, _, rfl, _, _, rfl, rfl, _, rfl, ?_⟩
    by_cases cc : total + (1 + y) * 2 ^ e2 ≤ most
    · rw [decide_eq_true cc]
      refine iteT ⟨_, rfl, _, rfl, _, _, rfl, rfl, _, rfl, .inl ⟨rfl, _, SqL.of hF6⟩, _, rfl, _, rfl, (by show 2 ≤ sizeLine; decide), fun t ht => ⟨F2, _, _, rfl, rfl, new_same ht _ _ hF6, small1000 (by omega), ?_⟩⟩
      have st := new_same (o := .tup [.ref D, .int (1 + y)]) ht
      have tF : t ≠ F2 := Ne.symm (ne_of_none hF6 ht)
      refine ⟨Tm ++ [(ps, 1 + y)], rs ++ [.ref t], _, _, _, _, _, _, rfl, ?_, (hpF.same st).upd hFp hFc, upd_same, ?_, by rw [List.length_append]; show Tm.length + 1 ≤ _; omega, ?_, ?_, by omega, cc⟩
      · intro b o nb hb
        have h6 := st _ _ ((k2.trans k26) _ _ nb hb)
        by_cases hbF : b = F2
        · subst hbF
          rw [hFH] at hb
          cases hb
        · rw [upd_ne hbF]
          exact h6
      · have hF7 := st _ _ hF6
        refine paired_snoc ⟨t, D, rfl, ?_, ?_, fun z => z hDH⟩ (terms_push hF7 (paired_imp (fun _ _ r => r.same st) prs6))
        · rw [upd_ne tF, upd_same]
        · rw [upd_ne (Ne.symm nFD)]
          exact st _ _ hd6
      · intro e he
        rcases List.mem_append.mp he with he | he
        · exact hT e he
        · cases List.mem_singleton.mp he
          exact ⟨pps, by show 1 ≤ 1 + y; omega, by show 1 + y ≤ _; omega⟩
      · unfold wv at hw ⊢
        rw [List.map_append, List.sum_append, hw]
        show total + ((1 + y) * prodp (ch.map fun s => 2 * s) ps + 0) = _
        rw [w3, he2, Int.toNat_natCast, Int.add_zero]
    · rw [decide_eq_false cc]
      exact iteF ⟨Tm, rs, total, _, _, _, _, _, rfl, k2.trans k26, hpF, hF6, prs6, by omega, hT, hw, t0, tm⟩
  · rintro σ G2 ⟨Tm, rs, total, v5, v6, v7, v9, v10, rfl, k2, hp2, hF2, prs, lT, hT, hw, t0, tm⟩
    rw [Int.toNat_natCast] at lT hp2
    refine ⟨_, rfl, q F2 Tm G2 k2 (hp2.up (by omega)) ⟨fun z => z hFH, rs, hF2, prs⟩ (by omega) hT ?_⟩
    rw [hw, hmost]
    exact tm
end
end TF51
namespace TF51
open PySem PySem.Spec L2 TG TA
open PyProof.Rows hiding St
/-! ### the second numbers; the asks of a choice -/
abbrev sSe : Stmt := top 36
abbrev sAs : Stmt := top 37
abbrev sIN : Stmt := top 38
theorem scSe : FnScope ["choice", "value", "greatest", "found", "times", "sign"] ["choice", "value"] (defScope sSe) := ⟨rfl, rfl, rfl, by decide +kernel, rfl, by decide +kernel, by decide +kernel⟩
theorem scAs : FnScope ["choice", "terms", "first", "sign", "value"] ["choice", "terms"] (defScope sAs) := ⟨rfl, rfl, rfl, by decide +kernel, rfl, by decide +kernel, by decide +kernel⟩
theorem scIN : FnScope ["told", "due", "part"] ["told", "due"] (defScope sIN) := ⟨rfl, rfl, rfl, by decide +kernel, rfl, by decide +kernel, by decide +kernel⟩
def asksOf (c : List Int) (V : Int) : List (List Int) := if c.sum = 0 ∨ V < 2 then [c.map fun s => 2 * s] else [c.map fun s => 2 * s, second c (V + 1) (Builtin.Int.intBits V)]
def spSe : Sp := fun vs H Q _ => ∃ (a : Addr) (ch : List Int) (v : Int), vs = [.ref a, .int v] ∧ H a = some (.tup (ch.map V.int)) ∧ (∀ s ∈ ch, s = 0 ∨ s = 1) ∧ ch.length ≤ 3 ∧ 1 ≤ ch.sum ∧ 2 ≤ v ∧ (∀ m, frst ch = some m → v ≤ m) ∧
  ∀ (p : Addr) (H' : Hp), Same H H' → H' p = some (.tup ((second ch (v + 1) (Builtin.Int.intBits v)).map V.int)) → Q (.ref p) H'
def spAs : Sp := fun vs H Q _ => ∃ (a l : Addr) (ch : List Int) (T : List (List Int × Int)), vs = [.ref a, .ref l] ∧ H a = some (.tup (ch.map V.int)) ∧ (∀ s ∈ ch, s = 0 ∨ s = 1) ∧ ch.length ≤ 3 ∧ TermsAt H l T ∧ T.length ≤ 4 ∧ (∀ e ∈ T, TOk ch e) ∧
  (∀ m, frst ch = some m → wv (ch.map fun s => 2 * s) T ≤ m) ∧ 0 ≤ wv (ch.map fun s => 2 * s) T ∧ ∀ (p : Addr) (rs : List V) (H' : Hp), Same H H' → H p = none → H' p = some (.lst rs) → Paired (TupAt H') rs (asksOf ch (wv (ch.map fun s => 2 * s) T)) → Q (.ref p) H'
def spIN : Sp := fun vs H Q _ => ∃ (a b : Addr) (l : List Int), vs = [.ref a, .ref b] ∧ H a = some (.tup (l.map V.int)) ∧ H b = some (.tup (l.map V.int)) ∧ l.length ≤ 100 ∧ ∀ H', Same H H' → Q (.bl true) H'
section
variable {P : Program} {w : World} {K : PySem.W.Frag} {mg : Str → Option Value} {base : Heap} {f f1 f2 f3 : Addr} {fd fd1 fd2 fd3 : FuncData}
theorem ok_se (F : Fun K "_law_second" "_law_second" sSe f fd) (T : Bn mg) (D__law_power : Df K mg "_law_power" sPw f1 fd1 ["number", "times"]) (G__law_power : FnOk P w K mg base CX0 1 f1 fd1 ["number", "times"] spPw) : FnOk P w K mg base CX0 2 f fd ["choice", "value"] spSe := by
  refine F.ok scSe (fun vs H Q E h => ?_) (fun cdv A outer s H vs Q E hr h => ?_)
  · obtain ⟨a, ch, v, rfl, _⟩ := h
    rfl
  obtain ⟨a, ch, v, rfl, ha, h01, h3, hs1, v2, hm, q⟩ := h
  obtain ⟨u1, u2, u3⟩ := sum_01 h01
  have size := size_ok h01 (by omega) (by omega) (by omega) hm
  obtain ⟨b1, b2, b3⟩ := bits_gt (v := v) v2
  generalize Builtin.Int.intBits v = k at b1 b2 b3 size q
  have k1 : 1 ≤ k := by omega
  have k4 : k ≤ 4100 := by
    have : k * 1 ≤ k * k ^ ch.sum.toNat := Nat.mul_le_mul_left k (Nat.one_le_pow _ _ k1)
    omega
  refine ⟨_, (pss_cons (ps_set (i := 2) scSe.nd rfl (.inl rfl) pe_int)
      (pss_cons (ps_while PassesOwn.never (pt_cmpR op_le (pe_cd D__law_power G__law_power hr (by decide) (pa_cons pe_int (pa_cons (pe_op op_add (pv 2) pe_int) pa_nil))) (pv 1) (nomark _))
        (pss_one (ps_set (i := 2) scSe.nd rfl (.inl rfl) (pe_op op_add (pv 2) pe_int))))
      (pss_cons (ps_par (i := 3) (j := 4) (by rfl) scSe.nd rfl rfl (by decide) rfl rfl (pa_cons (pe_lst pa_nil) (pa_cons pe_int pa_nil)) (by rfl))
      (pss_cons (ps_for PassesOwn.never rfl (pi_tup (pv 0)) (pg_name (i := 5) scSe.nd rfl (.inl rfl))
        (pss_cons (ps_expr (pe_bm PySem.F.plainAttrs_list PySem.F.slot_list_append PySem.F.type_list_append mt_append (pv 3) (pa_cons (pe_ifExp (pt_cmpR op_eq (pv 5) pe_int (nomark _)) (pe_cd D__law_power G__law_power hr (by decide) (pa_cons (pe_op op_add (pv 1) pe_int) (pa_cons (pv 4) pa_nil))) pe_int) pa_nil)))
        (pss_one (ps_if (pt_cmpR op_eq (pv 5) pe_int (nomark _)) (pss_one (ps_set (i := 4) scSe.nd rfl (.inl rfl) (pe_op op_mulW (pv 4) (pe_op op_add (pv 2) pe_int)))) pss_nil))))
      (pss_one (ps_ret (pe_callTy call_tuple_of (by rfl) T.b_tuple (by decide +kernel) (pa_cons (pv 3) pa_nil)))))))), ?_⟩
  refine ⟨fun m σ G => G = H ∧ ∃ g : Nat, m = k - g ∧ g < k ∧ σ = [some (.ref a), some (.int v), some (.int (g : Int)), none, none, none], ⟨_, rfl, 0, rfl, k1, rfl⟩, ?_⟩
  rintro m σ G ⟨rfl, g, rfl, hg, rfl⟩
  refine ⟨_, rfl, _, _, rfl, rfl, 2, g + 1, 1, rfl, by decide, by decide, by omega, by omega, _, rfl, _, _, rfl, rfl, _, rfl, ?_⟩
  by_cases cc : (2 : Int) ^ (g + 1) ≤ v
  · rw [decide_eq_true cc]
    have hg2 : g + 1 < k := by
      refine Nat.lt_of_not_le fun h => ?_
      have := pow_cap (n := 2) (e := 1) (k := k) (m := g + 1) (by decide) (by decide) h
      rw [Nat.one_mul] at this
      omega
    exact iteT ⟨fun σ2 G2 => G2 = G ∧ σ2 = [some (.ref a), some (.int v), some (.int ((g : Int) + 1)), none, none, none], fun σ2 G2 h => ⟨k - (g + 1), by omega, h.1, g + 1, rfl, hg2, h.2⟩, _, rfl, _, _, rfl, rfl, rfl, rfl⟩
  rw [decide_eq_false cc]
  have hg2 : k = g + 1 := by
    refine Nat.le_antisymm (Nat.le_of_not_lt fun h => ?_) hg
    have := pow_cap (n := 2) (e := 1) (k := g + 1) (m := k - 1) (by decide) (by decide) (by omega)
    rw [Nat.one_mul] at this
    omega
  subst hg2
  refine iteF ⟨(by show 0 ≤ sizeLine; decide), fun d hd => ⟨_, _, rfl, ?_⟩⟩
  have sd := new_same (o := .lst []) hd
  refine ⟨_, rfl, a, rfl, ⟨_, SqT.of (sd _ _ ha)⟩, ?_⟩
  refine for_tup (K := K) (a := a) (xs := ch.map V.int) (fun j σ G2 => ∃ (t : Nat) (acc : List Int) (v5 : Option V), σ = [some (.ref a), some (.int v), some (.int (g : Int)), some (.ref d), some (.int (t : Int)), v5] ∧ Same G G2 ∧ G2 d = some (.lst (acc.map V.int)) ∧ acc.length = j ∧
    second ch (v + 1) (g + 1) = acc ++ second (ch.drop j) ((v + 1) ^ t) (g + 1) ∧ (g + 1) * t * (g + 1) ^ (ch.drop j).sum.toNat ≤ 4100) ?_ ?_ ?_ ?_
  · exact ⟨1, [], _, rfl, sd, upd_same, rfl, by rw [Int.pow_one]; rfl, by rw [List.drop_zero, Nat.mul_one]; exact size⟩
  · rintro j σ G2 _ ⟨t, acc, v5, _, s2, _⟩
    exact SqT.of (s2 _ _ ha)
  · rintro j x σ G2 hx ⟨t, acc, v5, rfl, s2, hg2, la, e1, sz⟩
    rw [List.getElem?_map] at hx
    obtain ⟨s, hs, rfl⟩ := Option.map_eq_some_iff.mp hx
    have hj := (List.getElem?_eq_some_iff.mp hs).1
    rw [drop_at hs] at e1 sz
    have sub : ∀ y ∈ ch.drop (j + 1), y = 0 ∨ y = 1 := fun y hy => h01 y (List.mem_of_mem_drop hy)
    obtain ⟨w1, _, _⟩ := sum_01 sub
    have kp : 1 ≤ (g + 1) ^ (ch.drop (j + 1)).sum.toNat := Nat.one_le_pow _ _ (Nat.succ_pos g)
    have kk : 1 ≤ (g + 1) ^ (s :: ch.drop (j + 1)).sum.toNat := Nat.one_le_pow _ _ (Nat.succ_pos g)
    have t4 : (g + 1) * t ≤ 4100 := Nat.le_trans (Nat.le_mul_of_pos_right _ kk) sz
    have t5 : t ≤ 4100 := Nat.le_trans (Nat.le_mul_of_pos_left t (Nat.succ_pos g)) t4
    have fin : ∀ y : Int, y = (v + 1) ^ t * s → Same G (L2.upd G2 d (.lst (acc.map V.int ++ [.int y]))) ∧ (L2.upd G2 d (.lst (acc.map V.int ++ [.int y]))) d = some (.lst ((acc ++ [(v + 1) ^ t * s]).map V.int)) := by
      rintro y rfl
      exact ⟨same_put s2 hd, by rw [upd_same, List.map_append]; rfl⟩
    have ea : second ch (v + 1) (g + 1) = (acc ++ [(v + 1) ^ t * s]) ++ second (ch.drop (j + 1)) (if s = 1 then ((v + 1) ^ t) ^ (g + 1) else (v + 1) ^ t) (g + 1) := by
      rw [e1, List.append_assoc]
      rfl
    have sz1 : (acc.map V.int).length < sizeLine := by rw [List.length_map]; exact small1000 (by omega)
    have la2 : (acc ++ [(v + 1) ^ t * s]).length = j + 1 := by rw [List.length_append, la]; rfl
    refine ⟨_, rfl, .inl ⟨rfl, _, SqL.of hg2⟩, _, rfl, rfl, _, rfl, ?_⟩
    rcases h01 s (List.mem_of_getElem? hs) with rfl | rfl
    · refine iteF ⟨d, _, _, rfl, rfl, hg2, sz1, _, rfl, rfl, _, rfl, iteF ?_⟩
      obtain ⟨f1, f2⟩ := fin 0 (by rw [Int.mul_zero])
      rw [List.sum_cons, Int.zero_add] at sz
      exact ⟨t, _, _, rfl, f1, f2, la2, ea, sz⟩
    · refine iteT ⟨_, rfl, _, _, rfl, rfl, _, rfl, v + 1, t, g + 1, rfl, by omega, b2, by omega, by omega, d, _, _, rfl, rfl, hg2, sz1, _, rfl, rfl, _, rfl, iteT ?_⟩
      obtain ⟨f1, f2⟩ := fin ((v + 1) ^ t) (by rw [Int.mul_one])
      refine ⟨_, rfl, _, rfl, _, _, rfl, rfl, _, _, rfl, rfl, ?_, t * (g + 1), _, _, rfl, f1, f2, la2, ?_, ?_⟩
      · exact wide_mul (a := 20) (b := 20) (by omega) (by omega) (by decide) (by decide) (by decide)
      · rw [ea, if_pos rfl, ← Int.pow_mul]
      · rw [List.sum_cons] at sz
        have e2 : (1 + (ch.drop (j + 1)).sum).toNat = (ch.drop (j + 1)).sum.toNat + 1 := by omega
        rw [e2, Nat.pow_succ, Nat.mul_comm ((g + 1) ^ _) (g + 1), ← Nat.mul_assoc] at sz
        rw [← Nat.mul_assoc]
        exact sz
  · rintro σ G2 ⟨t, acc, v5, rfl, s2, hg2, la, e1, sz⟩
    rw [List.length_map, List.drop_length] at e1
    have e3 : second ch (v + 1) (g + 1) = acc := by rw [e1]; exact List.append_nil _
    refine ⟨_, rfl, d, _, rfl, .inl ⟨SqL.of hg2, fun p2 hp2 => q p2 _ (s2.trans (new_same hp2)) ?_⟩⟩
    rw [upd_same, e3]
theorem TermsAt.same {H H2 : Hp} {l : Addr} {T : List (List Int × Int)} (h : TermsAt H l T) (s : Same H H2) : TermsAt H2 l T := by
  obtain ⟨rs, h1, h2⟩ := h
  exact ⟨rs, s _ _ h1, paired_imp (fun _ _ r => r.same s) h2⟩
theorem ok_as (F : Fun K "_law_asks" "_law_asks" sAs f fd) (T : Bn mg) (D__law_worth : Df K mg "_law_worth" sWo f1 fd1 ["terms", "numbers"]) (G__law_worth : FnOk P w K mg base CX0 2 f1 fd1 ["terms", "numbers"] spWo)
    (D__law_second : Df K mg "_law_second" sSe f2 fd2 ["choice", "value"]) (G__law_second : FnOk P w K mg base CX0 2 f2 fd2 ["choice", "value"] spSe) : FnOk P w K mg base CX0 3 f fd ["choice", "terms"] spAs := by
  refine F.ok scAs (fun vs H Q E h => ?_) (fun cdv A outer s H vs Q E hr h => ?_)
  · obtain ⟨a, l, ch, Tm, rfl, _⟩ := h
    rfl
  obtain ⟨a, l, ch, Tm, rfl, ha, h01, h3, hl, lT, hT, hm, hv0, q⟩ := h
  obtain ⟨u1, u2, u3⟩ := sum_01 h01
  refine ⟨_, (pss_cons (ps_set (i := 2) scAs.nd rfl (.inl rfl) (pe_callTy call_tuple_of (by rfl) T.b_tuple (by decide +kernel) (pa_cons (pe_lc (own := [("sign", 3)]) (g := (gName 3)) (by rfl) scAs.nd (pi_tup (pv 0)) (blkOk_by (own := [("sign", 3)]) (N := ["choice", "terms", "first", "sign", "value"]) (sc := defScope sAs) (by decide +kernel)) (fun _ _ _ _ _ => (pg_name (i := 3) scAs.nd rfl (.inl rfl))) (fun _ _ _ _ _ => pts_nil) (fun _ _ _ _ _ => (pe_op op_mul pe_int (pv 3)))) pa_nil)))
      (pss_cons (ps_set (i := 4) scAs.nd rfl (.inl rfl) (pe_cd D__law_worth G__law_worth hr (by decide) (pa_cons (pv 1) (pa_cons (pv 2) pa_nil))))
      (pss_one (ps_ret (pe_ifExp (PW.pt (pw_or (pt_cmpR op_eq (pe_callB (cr_sumT rfl) (by rfl) T.b_sum (by decide +kernel) (pa_cons (pv 0) pa_nil)) pe_int (nomark _)) (pw_or1 (pt_cmpR op_lt (pv 4) pe_int (nomark _))))) (pe_lst (pa_cons (pv 2) pa_nil)) (pe_lst (pa_cons (pv 2) (pa_cons (pe_cd D__law_second G__law_second hr (by decide) (pa_cons (pv 0) (pa_cons (pv 4) pa_nil))) pa_nil)))))))), ?_⟩
  refine ⟨_, rfl, a, rfl, ⟨_, SqT.of ha⟩, fun D hD => ?_⟩
  refine lc_tup (K := K) (a := a) (xs := ch.map V.int) (fun i G => Same H G ∧ G D = some (.lst (((ch.map fun s => 2 * s).take i).map V.int))) ?_ ?_ ?_ ?_
  · exact ⟨new_same hD, upd_same⟩
  · rintro i G _ ⟨s1, _⟩
    exact SqT.of (s1 _ _ ha)
  · rintro i x G hx ⟨s1, hg⟩
    rw [List.getElem?_map] at hx
    obtain ⟨s, hs, rfl⟩ := Option.map_eq_some_iff.mp hx
    refine ⟨rfl, _, rfl, _, _, rfl, rfl, .inl ⟨by decide, by decide⟩, _, hg, ?_, same_put s1 hD, ?_⟩
    · rw [List.length_map, List.length_take, List.length_map]
      exact small1000 (by omega)
    · rw [upd_same, take_more (x := 2 * s) (by rw [List.getElem?_map, hs]; rfl), List.map_append]
      rfl
  rintro G ⟨s1, hg⟩
  rw [List.length_map, List.take_of_length_le (by rw [List.length_map]; exact Nat.le_refl _)] at hg
  refine ⟨D, _, rfl, .inl ⟨SqL.of hg, fun p hp => ?_⟩⟩
  have s2 := s1.trans (new_same (o := .tup ((ch.map fun s => 2 * s).map V.int)) hp)
  have hp2 : (L2.upd G p (.tup ((ch.map fun s => 2 * s).map V.int))) p = some (.tup ((ch.map fun s => 2 * s).map V.int)) := upd_same
  generalize L2.upd G p (.tup ((ch.map fun s => 2 * s).map V.int)) = G2 at s2 hp2 ⊢
  refine ⟨_, rfl, _, rfl, l, p, Tm, ch.map fun s => 2 * s, ch, rfl, hl.same s2, hp2, lT, hT, List.length_map .., h3, fun n hn => ?_, fun G3 s3 => ?_⟩
  · obtain ⟨s, hs, rfl⟩ := List.mem_map.mp hn
    have big : (2 : Int) ≤ 2 ^ 4200 := by
      have := pow_cap (n := 2) (e := 1) (k := 1) (m := 4200) (by decide) (by decide) (by decide)
      rw [Int.pow_one, Nat.one_mul] at this
      exact this
    rcases h01 s hs with rfl | rfl
    · exact ⟨by decide, by omega⟩
    · exact ⟨by decide, by omega⟩
  generalize hV : wv (ch.map fun s => 2 * s) Tm = V at hm hv0 q
  have s13 := s2.trans s3
  have hp3 := s3 _ _ hp2
  have ha3 := s13 _ _ ha
  refine ⟨_, rfl, a, ch, rfl, SqT.of ha3, rfl, _, rfl, ?_⟩
  by_cases c0 : ch.sum = 0
  · rw [c0, decide_eq_true rfl]
    refine iteT (iteT ⟨_, rfl, (by show 1 ≤ sizeLine; decide), fun L hL => q L _ _ (s13.trans (new_same hL)) (s13.free hL) upd_same ?_⟩)
    unfold asksOf
    rw [if_pos (.inl c0)]
    exact .cons ⟨p, rfl, new_same hL _ _ hp3⟩ .nil
  rw [decide_eq_false (fun z => c0 (L2.V.int.inj z))]
  refine iteF ⟨_, rfl, _, _, rfl, rfl, _, rfl, ?_⟩
  by_cases c2 : V < 2
  · rw [decide_eq_true c2]
    refine iteT ⟨_, rfl, (by show 1 ≤ sizeLine; decide), fun L hL => q L _ _ (s13.trans (new_same hL)) (s13.free hL) upd_same ?_⟩
    unfold asksOf
    rw [if_pos (.inr c2)]
    exact .cons ⟨p, rfl, new_same hL _ _ hp3⟩ .nil
  rw [decide_eq_false c2]
  refine iteF ⟨_, rfl, _, rfl, _, rfl, a, ch, V, rfl, ha3, h01, h3, by omega, by omega, hm, fun p2 H4 s4 hp4 => ⟨(by show 2 ≤ sizeLine; decide), fun L hL => q L _ _ ((s13.trans s4).trans (new_same hL)) ((s13.trans s4).free hL) upd_same ?_⟩⟩
  unfold asksOf
  rw [if_neg (fun z => z.elim c0 c2)]
  exact .cons ⟨p, rfl, new_same hL _ _ (s4 _ _ hp3)⟩ (.cons ⟨p2, rfl, new_same hL _ _ hp4⟩ .nil)
theorem ok_in (F : Fun K "_law_is_numbers" "_law_is_numbers" sIN f fd) (T : Bn mg) : FnOk P w K mg base CX0 1 f fd ["told", "due"] spIN := by
  refine F.ok scIN (fun vs H Q E h => ?_) (fun cdv A outer s H vs Q E hr h => ?_)
  · obtain ⟨a, b, l, rfl, _⟩ := h
    rfl
  obtain ⟨a, b, l, rfl, ha, hb, hl, q⟩ := h
  refine ⟨_, (pss_cons (ps_if (PW.pt (pw_or (pt_not (pt_val (pe_callB call_isi (by rfl) T.b_isinstance (by decide +kernel) (pa_cons (pv 0) (pa_cons (pe_bltn (v := .ty "tuple") (u := .type "tuple") (by rfl) T.b_tuple (by decide +kernel) rfl) pa_nil))))) (pw_or1 (pt_cmpR (op_neD hr.units) (pe_callTy call_list_of (by rfl) T.b_list (by decide +kernel) (pa_cons (pv 0) pa_nil)) (pe_callTy call_list_of (by rfl) T.b_list (by decide +kernel) (pa_cons (pv 1) pa_nil)) (nomark _))))) (pss_one (ps_ret pe_bl)) pss_nil)
      (pss_one (ps_ret (pe_cmpR (op_eqD hr.units) (pe_lc (own := [("part", 2)]) (g := (gName 2)) (by rfl) scIN.nd (pi_tup (pv 0)) (blkOk_by (own := [("part", 2)]) (N := ["told", "due", "part"]) (sc := defScope sIN) (by decide +kernel)) (fun _ _ _ _ _ => (pg_name (i := 2) scIN.nd rfl (.inl rfl))) (fun _ _ _ _ _ => (pts_one (PW.pt (pw_or (pt_val (pe_callB (show CallR _ (.builtin "isinstance") (rIsi K) from call_isi) (by rfl) T.b_isinstance (by decide +kernel) (pa_cons (pv 2) (pa_cons (pe_bltn (v := .ty "bool") (u := .type "bool") (by rfl) T.b_bool (by decide +kernel) rfl) pa_nil)))) (pw_or1 (pt_not (pt_val (pe_callB (show CallR _ (.builtin "isinstance") (rIsi K) from call_isi) (by rfl) T.b_isinstance (by decide +kernel) (pa_cons (pv 2) (pa_cons (pe_bltn (v := .ty "int") (u := .type "int") (by rfl) T.b_int (by decide +kernel) rfl) pa_nil)))))))))) (fun _ _ _ _ _ => (pv 2))) (pe_lst pa_nil) (nomark _))))), ?_⟩
  have hv := HasTy.tup (K := K) ha
  refine ⟨_, rfl, .ref a, _, _, _, _, rfl, .ty "tuple", hv.1, kit_tuple hv.2, _, rfl, ?_⟩
  refine iteF ⟨_, rfl, a, _, rfl, .inr (SqT.of ha), fun l1 hl1 => ?_⟩
  have s1 := new_same (o := .lst (l.map V.int)) hl1
  refine ⟨_, rfl, b, _, rfl, .inr (SqT.of (s1 _ _ hb)), fun l2 hl2 => ?_⟩
  have s2 := new_same (o := .lst (l.map V.int)) hl2
  refine ⟨.list (l.map .int), .list (l.map .int), .lst (SqL.of (s2 _ _ upd_same)) (dp_ints l), .lst (SqL.of upd_same) (dp_ints l), (ints_shaped l).2, (ints_shaped l).2, _, rfl, ?_⟩
  rw [show PyData.eqv (.list (l.map .int)) (.list (l.map .int)) = true from (ints_eqv l l).trans (decide_eq_true rfl)]
  have s12 := s1.trans s2
  refine iteF ⟨_, rfl, a, rfl, ⟨_, SqT.of (s12 _ _ ha)⟩, fun D hD => ?_⟩
  generalize L2.upd (L2.upd H l1 (.lst (l.map V.int))) l2 (.lst (l.map V.int)) = H2 at s12 hD ⊢
  refine lc_tup (K := K) (a := a) (xs := l.map V.int) (fun i G => Same H2 G ∧ G D = some (.lst [])) ?_ ?_ ?_ ?_
  · exact ⟨new_same hD, upd_same⟩
  · rintro i G _ ⟨s3, _⟩
    exact SqT.of (s3 _ _ (s12 _ _ ha))
  · rintro i x G hx ⟨s3, hg⟩
    rw [List.getElem?_map] at hx
    obtain ⟨y, hy, rfl⟩ := Option.map_eq_some_iff.mp hx
    have ht := HasTy.int (K := K) (H := G) y
    exact ⟨rfl, _, rfl, .int y, _, _, _, _, rfl, .ty "bool", ht.1, kit_bool ht.2, _, rfl, iteF ⟨_, rfl, .int y, _, _, _, _, rfl, .ty "int", ht.1, kit_int ht.2, _, rfl, iteF ⟨s3, hg⟩⟩⟩
  rintro G ⟨s3, hg⟩
  refine ⟨(by show 0 ≤ sizeLine; decide), fun l3 hl3 => ?_⟩
  have s4 := new_same (o := .lst []) hl3
  refine ⟨.list [], .list [], .lst (SqL.of (s4 _ _ hg)) .nil, .lst (SqL.of upd_same) .nil, rfl, rfl, ?_⟩
  exact q _ ((s12.trans s3).trans s4)
end
end TF51
namespace TF51
open PySem PySem.Spec L2 TG TA
open PyProof.Rows hiding St
/-! ### asks and values, one behind the other -/
structure Seq1 (c f : List Int) (al : List (List Int)) : Prop where
  len : al.length = f.length
  few : f.length ≤ if c.sum = 0 then 1 else 2
  step : ∀ i, i < f.length → ∃ a v, al[i]? = some a ∧ f[i]? = some v ∧ askOf c (f.take i) = some a ∧ okF c (f.take i) v = true
  fin : askOf c f = none
  v0 : ∀ v ∈ f, 0 ≤ v
  a0 : ∀ a ∈ al, a.length = c.length ∧ ∀ n ∈ a, 0 ≤ n
inductive All3 : List (List Int) → List (List Int) → List (List (List Int)) → Prop
  | nil : All3 [] [] []
  | cons {c f al cs fs als} : Seq1 c f al → All3 cs fs als → All3 (c :: cs) (f :: fs) (al :: als)
theorem All3.snoc {c f al} (h : Seq1 c f al) : ∀ {cs fs als}, All3 cs fs als → All3 (cs ++ [c]) (fs ++ [f]) (als ++ [al])
  | _, _, _, .nil => .cons h .nil
  | _, _, _, .cons r t => .cons r (All3.snoc h t)
theorem All3.len : ∀ {cs fs als}, All3 cs fs als → als.flatten.length = fs.flatten.length
  | _, _, _, .nil => rfl
  | _, _, _, .cons r t => by
    rw [List.flatten_cons, List.flatten_cons, List.length_append, List.length_append, r.len, t.len]
theorem All3.few : ∀ {cs fs als}, All3 cs fs als → fs.flatten.length ≤ (cs.map fun c => if c.sum = 0 then 1 else 2).sum
  | _, _, _, .nil => Nat.le_refl _
  | _, _, _, .cons r t => by
    rw [List.flatten_cons, List.length_append, List.map_cons, List.sum_cons]
    exact Nat.add_le_add r.few t.few
theorem All3.all {p : List Int → Prop} {q : Int → Prop} : ∀ {cs fs als}, All3 cs fs als → (∀ c f al, c ∈ cs → Seq1 c f al → (∀ a ∈ al, p a) ∧ ∀ v ∈ f, q v) → (∀ a ∈ als.flatten, p a) ∧ ∀ v ∈ fs.flatten, q v
  | _, _, _, .nil, _ => ⟨fun _ h => (nomatch h), fun _ h => (nomatch h)⟩
  | _, _, _, .cons r t, h => by
    obtain ⟨h1, h2⟩ := h _ _ _ List.mem_cons_self r
    obtain ⟨h3, h4⟩ := t.all fun c f al m => h c f al (List.mem_cons_of_mem _ m)
    rw [List.flatten_cons, List.flatten_cons]
    exact ⟨fun a ha => (List.mem_append.mp ha).elim (h1 a) (h3 a), fun a ha => (List.mem_append.mp ha).elim (h2 a) (h4 a)⟩
def st : List (List Int) → Nat → List (List Int)
  | [], _ => []
  | f :: fs, n => f.take n :: st fs (n - f.length)
theorem st_zero : ∀ fs, st fs 0 = fs.map fun _ => []
  | [] => rfl
  | f :: fs => by
    show f.take 0 :: st fs (0 - f.length) = _
    rw [Nat.zero_sub, st_zero fs]
    rfl
theorem All3.map : ∀ {cs fs als}, All3 cs fs als → (fs.map fun _ => ([] : List Int)) = cs.map fun _ => []
  | _, _, _, .nil => rfl
  | _, _, _, .cons _ t => by rw [List.map_cons, List.map_cons, t.map]
theorem st_step : ∀ {cs fs als}, All3 cs fs als → ∀ n, n < fs.flatten.length → ∃ i a v, als.flatten[n]? = some a ∧ fs.flatten[n]? = some v ∧ nextIn cs (st fs n) = some (i, a) ∧ okF (cs.getD i []) ((st fs n).getD i []) v = true ∧ (st fs n).set i ((st fs n).getD i [] ++ [v]) = st fs (n + 1)
  | _, _, _, .nil, n, h => absurd h (Nat.not_lt_zero _)
  | _, _, _, @All3.cons c f al cs fs als r t, n, h => by
    rw [List.flatten_cons, List.length_append] at h
    rw [List.flatten_cons, List.flatten_cons]
    by_cases c1 : n < f.length
    · obtain ⟨a, v, h1, h2, h3, h4⟩ := r.step n c1
      refine ⟨0, a, v, ?_, ?_, ?_, h4, ?_⟩
      · rw [List.getElem?_append_left (by rw [r.len]; exact c1)]
        exact h1
      · rw [List.getElem?_append_left c1]
        exact h2
      · show (match askOf c (f.take n) with | some a => some (0, a) | none => _) = _
        rw [h3]
      · show (f.take n ++ [v]) :: st fs (n - f.length) = f.take (n + 1) :: st fs (n + 1 - f.length)
        rw [take_more h2, show n - f.length = n + 1 - f.length from by omega]
    · have e : f.take n = f := List.take_of_length_le (by omega)
      obtain ⟨i, a, v, h1, h2, h3, h4, h5⟩ := st_step t (n - f.length) (by omega)
      refine ⟨i + 1, a, v, ?_, ?_, ?_, h4, ?_⟩
      · rw [List.getElem?_append_right (by rw [r.len]; omega), r.len]
        exact h1
      · rw [List.getElem?_append_right (by omega)]
        exact h2
      · show (match askOf c (f.take n) with | some a => some (0, a) | none => (nextIn cs (st fs (n - f.length))).map fun (p : Nat × List Int) => (p.1 + 1, p.2)) = _
        rw [e, r.fin, h3]
        rfl
      · show f.take n :: (st fs (n - f.length)).set i ((st fs (n - f.length)).getD i [] ++ [v]) = f.take (n + 1) :: st fs (n + 1 - f.length)
        rw [h5, e, List.take_of_length_le (by omega), show n - f.length + 1 = n + 1 - f.length from by omega]
theorem st_fin : ∀ {cs fs als}, All3 cs fs als → ∀ n, fs.flatten.length ≤ n → nextIn cs (st fs n) = none
  | _, _, _, .nil, n, h => rfl
  | _, _, _, @All3.cons c f al cs fs als r t, n, h => by
    rw [List.flatten_cons, List.length_append] at h
    show (match askOf c (f.take n) with | some a => some (0, a) | none => (nextIn cs (st fs (n - f.length))).map fun (p : Nat × List Int) => (p.1 + 1, p.2)) = _
    rw [List.take_of_length_le (by omega), r.fin, st_fin t _ (by omega)]
    rfl
theorem run_st {cs fs als} (h : All3 cs fs als) {as : List (List Int × Int)} (e1 : as.map (·.1) = als.flatten) (e2 : as.map (·.2) = fs.flatten) : ∀ k n, n + k ≤ fs.flatten.length → TG.run cs (st fs n) ((as.drop n).take k) = some (st fs (n + k))
  | 0, n, _ => by
    rw [List.take_zero]
    rfl
  | k + 1, n, hk => by
    obtain ⟨i, a, v, h1, h2, h3, h4, h5⟩ := st_step h n (by omega)
    rw [← e1, List.getElem?_map] at h1
    rw [← e2, List.getElem?_map] at h2
    obtain ⟨⟨a', v'⟩, he, rfl⟩ := Option.map_eq_some_iff.mp h1
    rw [he] at h2
    cases Option.some.inj h2
    rw [drop_at he, List.take_succ_cons]
    show (match nextIn cs (st fs n) with | some (i, a) => if a = a' ∧ okF (cs.getD i []) ((st fs n).getD i []) v' = true then TG.run cs ((st fs n).set i ((st fs n).getD i [] ++ [v'])) ((as.drop (n + 1)).take k) else none | none => none) = _
    rw [h3]
    dsimp only
    rw [if_pos ⟨rfl, h4⟩, h5, run_st h e1 e2 k (n + 1) (by omega), show n + 1 + k = n + (k + 1) from by omega]
theorem prodp_nn : ∀ (ns ps : List Int), (∀ n ∈ ns, 0 ≤ n) → 0 ≤ prodp ns ps
  | n :: ns, p :: ps, h => Int.mul_nonneg (Int.pow_nonneg (h n List.mem_cons_self)) (prodp_nn ns ps fun x hx => h x (List.mem_cons_of_mem _ hx))
  | [], _, _ => by show (0 : Int) ≤ 1; decide
  | _ :: _, [], _ => by show (0 : Int) ≤ 1; decide
theorem wv_nn {ns : List Int} (h : ∀ n ∈ ns, 0 ≤ n) : ∀ {T : List (List Int × Int)}, (∀ e ∈ T, 0 ≤ e.2) → 0 ≤ wv ns T
  | [], _ => Int.le_refl _
  | e :: T, k => by
    show 0 ≤ e.2 * prodp ns e.1 + wv ns T
    have h1 := Int.mul_nonneg (k e List.mem_cons_self) (prodp_nn ns e.1 h)
    have h2 := wv_nn h (T := T) fun x hx => k x (List.mem_cons_of_mem _ hx)
    omega
theorem second_nn : ∀ (c : List Int) (n : Int) (k : Nat), (∀ s ∈ c, s = 0 ∨ s = 1) → 0 ≤ n → (second c n k).length = c.length ∧ ∀ x ∈ second c n k, 0 ≤ x
  | [], _, _, _, _ => ⟨rfl, fun _ h => nomatch h⟩
  | s :: c, n, k, h, h0 => by
    obtain ⟨h1, h2⟩ := second_nn c (if s = 1 then n ^ k else n) k (fun x hx => h x (List.mem_cons_of_mem _ hx)) (by by_cases e : s = 1; (rw [if_pos e]; exact Int.pow_nonneg h0); (rw [if_neg e]; exact h0))
    refine ⟨by show (second c _ k).length + 1 = _; rw [h1]; rfl, fun x hx => ?_⟩
    rcases List.mem_cons.mp hx with rfl | hx
    · rcases h s List.mem_cons_self with rfl | rfl <;> omega
    · exact h2 x hx
theorem frst_most {c : List Int} (h : 1 ≤ c.sum) (h3 : c.sum ≤ 3) : frst c = some (lawMost c) := by
  unfold frst lawMost
  have q : c.sum.toNat = 1 ∨ c.sum.toNat = 2 ∨ c.sum.toNat = 3 := by omega
  rcases q with e | e | e <;> rw [e] <;> rfl
theorem frst_none {c : List Int} (h : c.sum = 0) : frst c = none := by
  unfold frst
  rw [h]
  rfl
theorem seq1_ok {c : List Int} (h01 : ∀ s ∈ c, s = 0 ∨ s = 1) (h3 : c.length ≤ 3) {T : List (List Int × Int)} (hT : ∀ e ∈ T, TOk c e) (hm : wv (c.map fun s => 2 * s) T ≤ lawMost c) :
    (∀ m, frst c = some m → wv (c.map fun s => 2 * s) T ≤ m) ∧ 0 ≤ wv (c.map fun s => 2 * s) T ∧ Seq1 c ((asksOf c (wv (c.map fun s => 2 * s) T)).map fun a => wv a T) (asksOf c (wv (c.map fun s => 2 * s) T)) := by
  obtain ⟨u1, u2, u3⟩ := sum_01 h01
  have T0 : ∀ e ∈ T, 0 ≤ e.2 := fun e he => by have := (hT e he).2.1; omega
  have f0 : ∀ n ∈ (c.map fun s => 2 * s), 0 ≤ n := fun n hn => by
    obtain ⟨s, hs, rfl⟩ := List.mem_map.mp hn
    rcases h01 s hs with rfl | rfl <;> decide
  have v0 := wv_nn f0 T0
  have hf : ∀ m, frst c = some m → wv (c.map fun s => 2 * s) T ≤ m := fun m hm2 => by
    by_cases c0 : c.sum = 0
    · rw [frst_none c0] at hm2
      cases hm2
    · rw [frst_most (by omega) (by omega)] at hm2
      cases Option.some.inj hm2
      exact hm
  refine ⟨hf, v0, ?_⟩
  have ok0 : okF c [] (wv (c.map fun s => 2 * s) T) = true := by
    unfold okF
    cases e : frst c with
    | none => rfl
    | some m => exact decide_eq_true (hf m e)
  have lf : (c.map fun s => 2 * s).length = c.length := List.length_map ..
  generalize hV : wv (c.map fun s => 2 * s) T = V at ok0 v0
  unfold asksOf
  by_cases cc : c.sum = 0 ∨ V < 2
  · rw [if_pos cc]
    refine ⟨rfl, ?_, fun i hi => ?_, ?_, fun v hv => ?_, fun a ha => ?_⟩
    · show 1 ≤ _
      by_cases e : c.sum = 0
      · rw [if_pos e]; exact Nat.le_refl 1
      · rw [if_neg e]; exact Nat.le_succ 1
    · have hi : i < 1 := hi
      obtain rfl : i = 0 := by omega
      exact ⟨_, _, rfl, rfl, rfl, (show okF c [] (wv (c.map fun s => 2 * s) T) = true by rw [hV]; exact ok0)⟩
    · show (if (1 : Int) ∈ c ∧ ¬ wv _ T < 2 then _ else none) = none
      rw [if_neg]
      rintro ⟨z1, z2⟩
      rw [hV] at z2
      have := u3.mpr z1
      omega
    · rw [List.mem_singleton.mp hv]
      show 0 ≤ wv (c.map fun s => 2 * s) T
      rw [hV]
      exact v0
    · rw [List.mem_singleton.mp ha]
      exact ⟨lf, f0⟩
  · rw [if_neg cc]
    have c0 : c.sum ≠ 0 := fun e => cc (.inl e)
    have c2 : ¬ V < 2 := fun e => cc (.inr e)
    obtain ⟨n1, n2⟩ := second_nn c (V + 1) (Builtin.Int.intBits V) h01 (by omega)
    refine ⟨rfl, ?_, fun i hi => ?_, rfl, fun v hv => ?_, fun a ha => ?_⟩
    · rw [if_neg c0]
      exact Nat.le_refl 2
    · have hi : i < 2 := hi
      have q : i = 0 ∨ i = 1 := by omega
      rcases q with rfl | rfl
      · exact ⟨_, _, rfl, rfl, rfl, (show okF c [] (wv (c.map fun s => 2 * s) T) = true by rw [hV]; exact ok0)⟩
      · refine ⟨_, _, rfl, rfl, ?_, rfl⟩
        show (if (1 : Int) ∈ c ∧ ¬ wv (c.map fun s => 2 * s) T < 2 then some (second c (wv (c.map fun s => 2 * s) T + 1) (Builtin.Int.intBits (wv (c.map fun s => 2 * s) T))) else none) = _
        rw [hV, if_pos ⟨u3.mp (by omega), c2⟩]
    · rcases List.mem_cons.mp hv with rfl | hv
      · show 0 ≤ wv (c.map fun s => 2 * s) T
        rw [hV]
        exact v0
      · rw [List.mem_singleton.mp hv]
        exact wv_nn n2 T0
    · rcases List.mem_cons.mp ha with rfl | ha
      · exact ⟨lf, f0⟩
      · rw [List.mem_singleton.mp ha]
        exact ⟨n1, n2⟩
end TF51
namespace TF51
open PySem PySem.Spec L2 TG TA
open PyProof.Rows hiding St
section
variable {X : Cx} {k j : Nat} {f : Addr} {fd : FuncData} {ps ks : List Str} {sp : Sp} {x : Str} {st : Stmt} {p pos : Pos} {kws : List Keyword} {tk : TA} {g : List Value → List Value → List Value} {gV : List V → List V → List V}
/-- f(k = v, ..) -/
theorem pe_cdk0 (D : Df X.K X.mg x st f fd ps) (F : FnOk X.prog X.w X.K X.mg X.base CX0 k f fd ps sp) (B : KBn X.K fd ps 0 ks g gV) (hr : Room j X.A) (hj : k ≤ j) (hkw : PK X kws tk) (hg : Gl X x := by rfl)
    (hall : (backToKw pos (keywordEach kws X.env)).all (·.1.isSome) = true := by rfl) (hks : (backToKw pos (keywordEach kws X.env)).filterMap (·.1) = ks := by rfl)
    (hdb : (x == ("__debug__" : Str)) = false := by decide) (hpl : ((backTo pos (starEach [] X.env)).any (·.1) || (backToKw pos (keywordEach kws X.env)).any (·.1.isNone)) = false := by rfl) :
    PE X (.Call (.Name x p) [] kws pos) (tCallN 0 ks.length sp gV E0 tNil tk) := by
  refine ⟨fun pins s σ H Q I h => wpAny_Call_Name_kw (ld_glob I hg D.m ?_ hdb)⟩
  refine PySem.W.callWith_KW0 (h₀ := X.base) I.ok.mod.kin D.F.kp hall (thn (hkw.run pos pins s σ H _ I h) fun ws s2 ⟨zs, H2, I2, rz, l1, l2, q2⟩ => ⟨I2.kIn, ?_⟩) hpl
  rw [hks]
  exact run_fnN (us := []) (vs := []) F (hr.mono hj) B pass0 I2 .nil rz rfl l2 q2
end
/-- an answer: a tuple, its numbers none of the lists of S -/
def AnsT (S : Addr → Prop) (H : Hp) (v : V) (e : List Int × Int) : Prop := ∃ a b, v = .ref a ∧ H a = some (.tup [.ref b, .int e.2]) ∧ (H b = some (.lst (e.1.map V.int)) ∨ H b = some (.tup (e.1.map V.int))) ∧ ¬ S b
section
variable {S : Addr → Prop} {H H2 : Hp} {v : V} {e : List Int × Int} {p c D : Addr} {n : Nat} {xs ys : List V}
theorem AnsT.at (h : AnsT S H v e) : AnsAt H v e := by
  obtain ⟨a, b, e1, h1, h2, _⟩ := h
  exact ⟨a, .ref b, e1, .inr h1, b, rfl, h2⟩
theorem AnsT.same (h : AnsT S H v e) (s : Same H H2) : AnsT S H2 v e := by
  obtain ⟨a, b, e1, h1, h2, h3⟩ := h
  exact ⟨a, b, e1, s _ _ h1, h2.imp (s _ _) (s _ _), h3⟩
theorem AnsT.keep (h : AnsT S H v e) (hp : PenAt n H p c) (k : Keep p H H2) : AnsT S H2 v e := by
  obtain ⟨a, b, e1, h1, h2, h3⟩ := h
  refine ⟨a, b, e1, k _ _ (tup_ne hp h1) h1, ?_, h3⟩
  rcases h2 with h2 | h2
  · exact .inl (k _ _ (ints_ne hp h2) h2)
  · exact .inr (k _ _ (tup_ne hp h2) h2)
theorem AnsT.upd (h : AnsT S H v e) (hS : S D) (hD : H D = some (.lst xs)) : AnsT S (L2.upd H D (.lst ys)) v e := by
  obtain ⟨a, b, e1, h1, h2, h3⟩ := h
  have nb : b ≠ D := fun z => h3 (by rw [z]; exact hS)
  refine ⟨a, b, e1, ?_, by rw [upd_ne nb]; exact h2, h3⟩
  rw [upd_ne fun z => by subst z; rw [hD] at h1; cases h1]
  exact h1
end
theorem tupAt_keep {H H2 : Hp} {v : V} {ch : List Int} {p c : Addr} {n : Nat} (h : TupAt H v ch) (hp : PenAt n H p c) (k : Keep p H H2) : TupAt H2 v ch := by
  obtain ⟨a, e, h⟩ := h
  exact ⟨a, e, k _ _ (tup_ne hp h) h⟩
/-- an answer as a list, neither it nor its numbers among S -/
def AnsL1 (S : Addr → Prop) (H : Hp) (v : V) (e : List Int × Int) : Prop := ∃ a b, v = .ref a ∧ H a = some (.lst [.ref b, .int e.2]) ∧ (H b = some (.lst (e.1.map V.int)) ∨ H b = some (.tup (e.1.map V.int))) ∧ ¬ S a ∧ ¬ S b
section
variable {S : Addr → Prop} {H H2 : Hp} {v : V} {e : List Int × Int} {D : Addr} {xs ys : List V}
theorem AnsL1.at (h : AnsL1 S H v e) : AnsAt H v e := by
  obtain ⟨a, b, e1, h1, h2, _⟩ := h
  exact ⟨a, .ref b, e1, .inl h1, b, rfl, h2⟩
theorem AnsL1.same (h : AnsL1 S H v e) (s : Same H H2) : AnsL1 S H2 v e := by
  obtain ⟨a, b, e1, h1, h2, h3⟩ := h
  exact ⟨a, b, e1, s _ _ h1, h2.imp (s _ _) (s _ _), h3⟩
theorem AnsL1.upd (h : AnsL1 S H v e) (hS : S D) (hD : H D = some (.lst xs)) : AnsL1 S (L2.upd H D (.lst ys)) v e := by
  obtain ⟨a, b, e1, h1, h2, h3, h4⟩ := h
  have na : a ≠ D := fun z => h3 (by rw [z]; exact hS)
  have nb : b ≠ D := fun z => h4 (by rw [z]; exact hS)
  exact ⟨a, b, e1, by rw [upd_ne na]; exact h1, by rw [upd_ne nb]; exact h2, h3, h4⟩
end
theorem paired_take {α β : Type} {R : α → β → Prop} : ∀ (n : Nat) {xs : List α} {ys : List β}, Paired R xs ys → Paired R (xs.take n) (ys.take n)
  | 0, _, _, _ => .nil
  | _ + 1, _, _, .nil => .nil
  | n + 1, _, _, .cons r t => .cons r (paired_take n t)
/-- an answer as it was kept -/
def KeptAt (K : PySem.W.Frag) (H : Hp) (v : V) (e : List Int × Int) : Prop := ∃ a b, v = .ref a ∧ H a = some (.tup [.ref b, .int e.2]) ∧ SqT K H b (e.1.map V.int)
theorem sqT_same {K : PySem.W.Frag} {H H2 : Hp} {a : Addr} {xs : List V} (h : SqT K H a xs) (s : Same H H2) : SqT K H2 a xs := h.imp (Or.imp (s _ _) fun ⟨o, z⟩ => ⟨o, s _ _ z⟩) id
theorem sqT_upd {K : PySem.W.Frag} {H : Hp} {a D : Addr} {xs ds ys : List V} (h : SqT K H a xs) (hD : H D = some (.lst ds)) : SqT K (L2.upd H D (.lst ys)) a xs := by
  rcases h with (h | ⟨o, h⟩) | h
  · exact .inl (.inl (by rw [upd_ne fun z => by subst z; rw [hD] at h; cases h]; exact h))
  · exact .inl (.inr ⟨o, by rw [upd_ne fun z => by subst z; rw [hD] at h; cases h]; exact h⟩)
  · exact .inr h
theorem KeptAt.same {K : PySem.W.Frag} {H H2 : Hp} {v : V} {e : List Int × Int} (h : KeptAt K H v e) (s : Same H H2) : KeptAt K H2 v e := by
  obtain ⟨a, b, e1, h1, h2⟩ := h
  exact ⟨a, b, e1, s _ _ h1, sqT_same h2 s⟩
theorem KeptAt.upd {K : PySem.W.Frag} {H : Hp} {v : V} {e : List Int × Int} {D : Addr} {ds ys : List V} (h : KeptAt K H v e) (hD : H D = some (.lst ds)) : KeptAt K (L2.upd H D (.lst ys)) v e := by
  obtain ⟨a, b, e1, h1, h2⟩ := h
  exact ⟨a, b, e1, by rw [upd_ne fun z => by subst z; rw [hD] at h1; cases h1]; exact h1, sqT_upd h2 hD⟩
def ansD (e : List Int × Int) : PyData := .tuple [.tuple (e.1.map .int), .int e.2]
theorem kept_dp {K : PySem.W.Frag} {H : Hp} : ∀ {ds : List V} {as : List (List Int × Int)}, Paired (KeptAt K H) ds as → DpAll K H ds (as.map ansD)
  | _, _, .nil => .nil
  | _, _, .cons ⟨a, b, e1, h1, h2⟩ t => by
    subst e1
    exact .cons (.tup (SqT.of h1) (.cons (.tup h2 (dp_ints _)) (.cons (.int _) .nil))) (kept_dp t)
theorem ans_shaped (as : List (List Int × Int)) : SeqAt.shaped (.list (as.map ansD)) = true := by
  have h : PyData.canLayAll0 (as.map ansD) = true ∧ PyData.depthAll (as.map ansD) ≤ 2 := by
    induction as with
    | nil => exact ⟨rfl, Nat.zero_le _⟩
    | cons e as ih =>
      obtain ⟨h1, h2⟩ := ih
      obtain ⟨i1, _⟩ := ints_shaped e.1
      obtain ⟨i2, i3⟩ := Bool.and_eq_true_iff.mp i1
      have i2 : PyData.canLayAll0 (e.1.map PyData.int) = true := i2
      have i4 : ∀ l : List Int, PyData.depthAll (l.map PyData.int) ≤ 0 := by
        intro l
        induction l with
        | nil => exact Nat.le_refl _
        | cons x l ih => show max 0 (PyData.depthAll (l.map PyData.int)) ≤ 0; omega
      refine ⟨?_, ?_⟩
      · show ((PyData.canLayAll0 (e.1.map PyData.int) && true) && PyData.canLayAll0 (as.map ansD)) = true
        rw [i2, h1]
        rfl
      · show max (max (PyData.depthAll (e.1.map PyData.int) + 1) (max 0 0) + 1) (PyData.depthAll (as.map ansD)) ≤ 2
        have := i4 e.1
        omega
  have h2 := h.2
  show (PyData.canLayAll0 (as.map ansD) && decide (PyData.depthAll (as.map ansD) + 1 ≤ 64)) = true
  rw [h.1, decide_eq_true (by omega)]
  rfl
theorem ite_seq {K : PySem.W.Frag} {c : Bool} {i : Nat} {b : Addr} {ns : List Int} {σ : L2.St} {H : Hp} {Q : VK} (hs : σ[i]? = some (some (.ref b))) (hb : H b = some (.tup (ns.map V.int)))
    (h : ∀ u H2, Same H H2 → (H2 u = some (.lst (ns.map V.int)) ∨ H2 u = some (.tup (ns.map V.int))) → (u = b ∨ H u = none) → Q (.ref u) H2) : if c = true then tCB (rListX K) (tCons (tVar i) tNil) σ H Q else tVar i σ H Q := by
  cases c
  · exact ⟨_, hs, h b H (fun _ _ e => e) (.inr hb) (.inl rfl)⟩
  · exact ⟨_, hs, b, _, rfl, .inr (SqT.of hb), fun p hp => h p _ (new_same hp) (.inl upd_same) (.inr hp)⟩
theorem second_cap : ∀ (c : List Int) (n : Int) (k e M : Nat), (∀ s ∈ c, s = 0 ∨ s = 1) → 0 ≤ n → n ≤ 2 ^ e → 1 ≤ k → e * k ^ c.sum.toNat ≤ M → ∀ x ∈ second c n k, x ≤ 2 ^ M
  | [], _, _, _, _, _, _, _, _, _, _, h => nomatch h
  | s :: c, n, k, e, M, h, h0, hn, hk, hM, x, hx => by
    have sub : ∀ y ∈ c, y = 0 ∨ y = 1 := fun y hy => h y (List.mem_cons_of_mem _ hy)
    obtain ⟨w1, _, _⟩ := sum_01 sub
    have kk : 1 ≤ k ^ (s :: c).sum.toNat := Nat.one_le_pow _ _ hk
    have eM : e ≤ M := Nat.le_trans (Nat.le_mul_of_pos_right _ kk) hM
    rw [List.sum_cons] at hM
    rcases List.mem_cons.mp hx with rfl | hx
    · have h1 := pow_cap (k := 1) (m := 1) h0 hn (Nat.le_refl 1)
      have h2 := pow_cap (n := 2) (e := 1) (k := e) (m := M) (by decide) (by decide) eM
      rw [Nat.one_mul] at h2
      rcases h s List.mem_cons_self with rfl | rfl
      · rw [Int.mul_zero]
        exact Int.pow_nonneg (by decide)
      · rw [Int.mul_one]
        exact Int.le_trans hn h2
    · rcases h s List.mem_cons_self with rfl | rfl
      · rw [Int.zero_add] at hM
        exact second_cap c n k e M sub h0 hn hk hM x hx
      · have e2 : (1 + c.sum).toNat = c.sum.toNat + 1 := by omega
        rw [e2, Nat.pow_succ, Nat.mul_comm (k ^ _) k, ← Nat.mul_assoc] at hM
        exact second_cap c (n ^ k) k (e * k) M sub (Int.pow_nonneg h0) (pow_cap h0 hn (Nat.le_refl k)) hk hM x hx
theorem asks_cap {c : List Int} {V : Int} (h01 : ∀ s ∈ c, s = 0 ∨ s = 1) (h3 : c.length ≤ 3) (v0 : 0 ≤ V) (hm : ∀ m, frst c = some m → V ≤ m) : ∀ a ∈ asksOf c V, ∀ n ∈ a, n ≤ 2 ^ 4200 := by
  obtain ⟨u1, u2, u3⟩ := sum_01 h01
  have big : ∀ e, e ≤ 4200 → (2 : Int) ^ e ≤ 2 ^ 4200 := fun e he => by
    have := pow_cap (n := 2) (e := 1) (k := e) (m := 4200) (by decide) (by decide) he
    rw [Nat.one_mul] at this
    exact this
  have f : ∀ n ∈ (c.map fun s => 2 * s), n ≤ 2 ^ 4200 := fun n hn => by
    obtain ⟨s, hs, rfl⟩ := List.mem_map.mp hn
    have := big 1 (by decide)
    rw [Int.pow_one] at this
    rcases h01 s hs with rfl | rfl <;> omega
  intro a ha
  unfold asksOf at ha
  by_cases cc : c.sum = 0 ∨ V < 2
  · rw [if_pos cc] at ha
    rw [List.mem_singleton.mp ha]
    exact f
  · rw [if_neg cc] at ha
    rcases List.mem_cons.mp ha with rfl | ha
    · exact f
    · rw [List.mem_singleton.mp ha]
      have c0 : c.sum ≠ 0 := fun e => cc (.inl e)
      have c2 : ¬ V < 2 := fun e => cc (.inr e)
      have size := size_ok h01 (by omega) (by omega) v0 hm
      obtain ⟨b1, b2, b3⟩ := bits_gt (v := V) (by omega)
      intro n hn
      exact Int.le_trans (second_cap c (V + 1) _ _ 4100 h01 (by omega) b2 (by omega) size n hn) (big 4100 (by decide))
end TF51
namespace TF51
open PySem PySem.Spec L2 TG TA
open PyProof.Rows hiding St
abbrev sLaw : Stmt := top 39
theorem scLaw : FnScope ["script", "sack", "turn", "many", "asks", "answers", "choice", "terms", "numbers", "kept", "value", "asked", "answer"] ["script"] (defScope sLaw) := ⟨rfl, rfl, rfl, by decide +kernel, rfl, by decide +kernel, by decide +kernel⟩
def spLaw (K : PySem.W.Frag) : Sp := fun vs H Q _ => ∃ (a : Addr) (ns : List Int), vs = [.ref a] ∧ SqL K H a (ns.map V.int) ∧ ns.length ≤ 63 ∧ ∀ H', Q (.bl true) H'
section
variable {P : Program} {w : World} {K : PySem.W.Frag} {mg : Str → Option Value} {base : Heap} {f f1 f2 f3 f4 f5 f6 f7 f8 f9 : Addr} {fd fd1 fd2 fd3 fd4 fd5 fd6 fd7 fd8 fd9 : FuncData} {g : List Value → List Value → List Value}
theorem ok_law (F : Fun K "law" "law" sLaw f fd) (T : Bn mg)
    (D__law_sack : Df K mg "_law_sack" sPen f1 fd1 ["script"]) (G__law_sack : FnOk P w K mg base CX0 1 f1 fd1 ["script"] (spPen K))
    (D__law_pick : Df K mg "_law_pick" sPick f2 fd2 ["sack", "some"]) (G__law_pick : FnOk P w K mg base CX0 2 f2 fd2 ["sack", "some"] (spPick K))
    (D__law_take : Df K mg "_law_take" sDraw f3 fd3 ["sack", "many"]) (G__law_take : FnOk P w K mg base CX0 1 f3 fd3 ["sack", "many"] spDraw)
    (D__law_choices : Df K mg "_law_choices" sLC f4 fd4 ["many"]) (G__law_choices : FnOk P w K mg base CX0 1 f4 fd4 ["many"] spLC)
    (D__law_terms : Df K mg "_law_terms" sTm f5 fd5 ["sack", "choice"]) (G__law_terms : FnOk P w K mg base CX0 3 f5 fd5 ["sack", "choice"] spTm)
    (D__law_asks : Df K mg "_law_asks" sAs f6 fd6 ["choice", "terms"]) (G__law_asks : FnOk P w K mg base CX0 3 f6 fd6 ["choice", "terms"] spAs)
    (D__law_worth : Df K mg "_law_worth" sWo f7 fd7 ["terms", "numbers"]) (G__law_worth : FnOk P w K mg base CX0 2 f7 fd7 ["terms", "numbers"] spWo)
    (D__law_power : Df K mg "_law_power" sPw f8 fd8 ["number", "times"]) (G__law_power : FnOk P w K mg base CX0 1 f8 fd8 ["number", "times"] spPw)
    (D__law_is_numbers : Df K mg "_law_is_numbers" sIN f9 fd9 ["told", "due"]) (G__law_is_numbers : FnOk P w K mg base CX0 1 f9 fd9 ["told", "due"] spIN)
    {fA : Addr} {fdA : FuncData} (D_next_ask : Df K mg "next_ask" sNA fA fdA ["many", "answers"]) (G_next_ask : FnOk P w K mg base CX0 7 fA fdA ["many", "answers"] (spNextAsk K))
    (B_next_ask : KBn K fdA ["many", "answers"] 0 ["answers", "many"] g (fun vs zs => vs ++ zs.reverse)) : FnOk P w K mg base CX0 8 f fd ["script"] (spLaw K) := by
  refine F.ok scLaw (fun vs H Q E h => ?_) (fun cdv A outer s H vs Q E hr h => ?_)
  · obtain ⟨a, ns, rfl, _⟩ := h
    rfl
  obtain ⟨sa, ns, rfl, hS, hl, q⟩ := h
  refine ⟨_, (pss_cons (ps_set (i := 1) scLaw.nd rfl (.inl rfl) (pe_cd D__law_sack G__law_sack hr (by decide) (pa_cons (pv 0) pa_nil)))
      (pss_cons (ps_for PassesOwn.never rfl (pi_range1 (by rfl) T.b_range (pa_cons pe_int pa_nil)) (pg_name (i := 2) scLaw.nd rfl (.inl rfl))
        (pss_cons (ps_set (i := 3) scLaw.nd rfl (.inl rfl) (pe_cd D__law_pick G__law_pick hr (by decide) (pa_cons (pv 1) (pa_cons (pe_lst (pa_cons pe_int (pa_cons pe_int (pa_cons pe_int (pa_cons pe_int (pa_cons pe_int pa_nil)))))) pa_nil))))
        (pss_cons (ps_par (i := 4) (j := 5) (by rfl) scLaw.nd rfl rfl (by decide) rfl rfl (pa_cons (pe_lst pa_nil) (pa_cons (pe_lst pa_nil) pa_nil)) (by rfl))
        (pss_cons (ps_for PassesOwn.never rfl (pi_list (pe_cd D__law_choices G__law_choices hr (by decide) (pa_cons (pv 3) pa_nil))) (pg_name (i := 6) scLaw.nd rfl (.inl rfl))
          (pss_cons (ps_set (i := 7) scLaw.nd rfl (.inl rfl) (pe_cd D__law_terms G__law_terms hr (by decide) (pa_cons (pv 1) (pa_cons (pv 6) pa_nil))))
          (pss_one (ps_for PassesOwn.never rfl (pi_list (pe_cd D__law_asks G__law_asks hr (by decide) (pa_cons (pv 6) (pa_cons (pv 7) pa_nil)))) (pg_name (i := 8) scLaw.nd rfl (.inl rfl))
            (pss_cons (ps_expr (pe_bm PySem.F.plainAttrs_list PySem.F.slot_list_append PySem.F.type_list_append mt_append (pv 4) (pa_cons (pv 8) pa_nil)))
            (pss_one (ps_expr (pe_bm PySem.F.plainAttrs_list PySem.F.slot_list_append PySem.F.type_list_append mt_append (pv 5) (pa_cons (pe_tup (pa_cons (pe_ifExp (pt_cmpR op_eq (pe_cd D__law_take G__law_take hr (by decide) (pa_cons (pv 1) (pa_cons pe_int pa_nil))) pe_int (nomark _)) (pe_callTy call_listX (by rfl) T.b_list (by decide +kernel) (pa_cons (pv 8) pa_nil)) (pv 8)) (pa_cons (pe_cd D__law_worth G__law_worth hr (by decide) (pa_cons (pv 7) (pa_cons (pv 8) pa_nil))) pa_nil))) pa_nil)))))))))
        (pss_cons (ps_if (pt_cmpR op_gt (pe_callB call_len_seq (by rfl) T.b_len (by decide +kernel) (pa_cons (pv 4) pa_nil)) (pe_op op_sub (pe_op op_mul pe_int (pe_cd D__law_power G__law_power hr (by decide) (pa_cons pe_int (pa_cons (pv 3) pa_nil)))) pe_int) (nomark _)) (pss_one (ps_ret pe_bl)) pss_nil)
        (pss_cons (ps_setLc (i := 9) (own := [("numbers", 8), ("value", 10)]) (g := (gTup K 2 (gCons (gName 8) (gCons (gName 10) gNil)))) rfl scLaw.nd rfl rfl (sw_true rfl rfl rfl (by decide +kernel)) (pi_list (pv 5)) (blkOk_by (own := [("numbers", 8), ("value", 10)]) (N := ["script", "sack", "turn", "many", "asks", "answers", "choice", "terms", "numbers", "kept", "value", "asked", "answer"]) (sc := defScope sLaw) (by decide +kernel)) (fun _ _ _ _ _ => (pg_tup (by rfl) (pgs_cons (pg_name (i := 8) scLaw.nd rfl (.inl rfl)) (pgs_cons (pg_name (i := 10) scLaw.nd rfl (.inl rfl)) pgs_nil)))) (fun _ _ _ _ _ => pts_nil) (fun _ _ _ _ _ => (pe_tup (pa_cons (pe_callTy (show CallR _ (.type "tuple") (rTupX K) from call_tupX) (by rfl) T.b_tuple (by decide +kernel) (pa_cons (pv 8) pa_nil)) (pa_cons (pv 10) pa_nil)))))
        (pss_cons (ps_for PassesOwn.never rfl (pi_range1 (by rfl) T.b_range (pa_cons (pe_callB call_len_seq (by rfl) T.b_len (by decide +kernel) (pa_cons (pv 4) pa_nil)) pa_nil)) (pg_name (i := 11) scLaw.nd rfl (.inl rfl))
          (pss_one (ps_if (pt_not (pt_val (pe_cd D__law_is_numbers G__law_is_numbers hr (by decide) (pa_cons (pe_cd D_next_ask G_next_ask hr (by decide) (pa_cons (pv 3) (pa_cons (pe_slice sl_list (pv 5) po_none (po_some (pv 11))) pa_nil))) (pa_cons (pe_ix ix_list (pv 4) (pv 11) (fun _ _ => rfl)) pa_nil))))) (pss_one (ps_ret pe_bl)) pss_nil)))
        (pss_cons (ps_if (pt_cmpR op_notN (pe_cdk0 D_next_ask G_next_ask B_next_ask hr (by decide) (pk_cons (pe_callTy call_tuple_of (by rfl) T.b_tuple (by decide +kernel) (pa_cons (pe_lc (own := [("answer", 12)]) (g := (gName 12)) (by rfl) scLaw.nd (pi_list (pv 5)) (blkOk_by (own := [("answer", 12)]) (N := ["script", "sack", "turn", "many", "asks", "answers", "choice", "terms", "numbers", "kept", "value", "asked", "answer"]) (sc := defScope sLaw) (by decide +kernel)) (fun _ _ _ _ _ => (pg_name (i := 12) scLaw.nd rfl (.inl rfl))) (fun _ _ _ _ _ => pts_nil) (fun _ _ _ _ _ => (pe_callTy (show CallR _ (.type "list") (rListX K) from call_listX) (by rfl) T.b_list (by decide +kernel) (pa_cons (pv 12) pa_nil)))) pa_nil)) (pk_cons (pv 3) pk_nil))) pe_non (nomark _)) (pss_one (ps_ret pe_bl)) pss_nil)
        (pss_one (ps_if (pt_cmpR (op_neD hr.units) (pe_lc (own := [("numbers", 8), ("value", 10)]) (g := (gTup K 2 (gCons (gName 8) (gCons (gName 10) gNil)))) (by rfl) scLaw.nd (pi_list (pv 5)) (blkOk_by (own := [("numbers", 8), ("value", 10)]) (N := ["script", "sack", "turn", "many", "asks", "answers", "choice", "terms", "numbers", "kept", "value", "asked", "answer"]) (sc := defScope sLaw) (by decide +kernel)) (fun _ _ _ _ _ => (pg_tup (by rfl) (pgs_cons (pg_name (i := 8) scLaw.nd rfl (.inl rfl)) (pgs_cons (pg_name (i := 10) scLaw.nd rfl (.inl rfl)) pgs_nil)))) (fun _ _ _ _ _ => pts_nil) (fun _ _ _ _ _ => (pe_tup (pa_cons (pe_callTy (show CallR _ (.type "tuple") (rTupX K) from call_tupX) (by rfl) T.b_tuple (by decide +kernel) (pa_cons (pv 8) pa_nil)) (pa_cons (pv 10) pa_nil))))) (pv 9) (nomark _)) (pss_one (ps_ret pe_bl)) pss_nil))))))))))
      (pss_one (ps_ret (pe_and (pe_cmpR (op_eqD hr.units) (pe_cd D_next_ask G_next_ask hr (by decide) (pa_cons pe_int (pa_cons (pe_lst pa_nil) pa_nil))) (pe_tup pa_nil) (nomark _)) (pe_one (pe_cmpR (op_eqD hr.units) (pe_cd D_next_ask G_next_ask hr (by decide) (pa_cons pe_int (pa_cons (pe_lst (pa_cons (pe_tup (pa_cons (pe_tup (pa_cons pe_int pa_nil)) (pa_cons (pe_op op_pow pe_int pe_int) pa_nil))) pa_nil)) pa_nil))) (pe_tup (pa_cons pe_int pa_nil)) (nomark _)))))))), ?_⟩
  refine ⟨_, rfl, sa, ns, rfl, hS, hl, fun p c H1 _ _ hp => ?_⟩
  refine ⟨2, rfl, by decide, by decide, ?_⟩
  refine for_range (lo := 0) (n := 2) (fun i σ G => (∃ v2 v3 v4 v5 v6 v7 v8 v9 v11, σ = [some (.ref sa), some (.ref p), v2, v3, v4, v5, v6, v7, v8, v9, none, v11, none]) ∧ PenAt (3000 * i) G p c) ⟨⟨_, _, _, _, _, _, _, _, _, rfl⟩, hp⟩ ?_ ?_
  · rintro i σ G0 hi ⟨⟨v2, v3, v4, v5, v6, v7, v8, v9, v11, rfl⟩, hpi⟩
    refine ⟨_, rfl, (by show 5 ≤ sizeLine; decide), fun X hX => ?_⟩
    have sX := new_same (o := .lst [.int 2, .int 1, .int 3, .int 2, .int 0]) hX
    refine ⟨p, c, X, _, 3000 * i, rfl, hpi.same sX, by omega, hpi.ne hX, upd_same, by simp, by show 5 ≤ 1000000; decide, fun v G1 hv k1 hp1 => ?_⟩
    obtain ⟨m, rfl, hm⟩ : ∃ m : Nat, v = .int (m : Int) ∧ m ≤ 3 := by
      rcases List.mem_cons.mp hv with rfl | hv
      · exact ⟨2, rfl, by decide⟩
      rcases List.mem_cons.mp hv with rfl | hv
      · exact ⟨1, rfl, by decide⟩
      rcases List.mem_cons.mp hv with rfl | hv
      · exact ⟨3, rfl, by decide⟩
      rcases List.mem_cons.mp hv with rfl | hv
      · exact ⟨2, rfl, by decide⟩
      cases List.mem_singleton.mp hv
      exact ⟨0, rfl, by decide⟩
    refine ⟨(by show 0 ≤ sizeLine; decide), fun KA hKA => ⟨(by show 0 ≤ sizeLine; decide), fun AN hAN => ⟨_, _, rfl, ?_⟩⟩⟩
    have nKp := hp1.ne hKA
    have nKc := hp1.ne2 hKA
    have nAp := (hp1.same (new_same (o := .lst []) hKA)).ne hAN
    have nAc := (hp1.same (new_same (o := .lst []) hKA)).ne2 hAN
    have nKA : KA ≠ AN := ne_of_none (upd_same (H := G1) (a := KA) (o := .lst [])) hAN
    have hp2 := (hp1.same (new_same (o := .lst []) hKA)).same (new_same (o := .lst []) hAN)
    have hK2 := new_same (o := .lst []) hAN _ _ (upd_same (H := G1) (a := KA) (o := .lst []))
    have hA2 : (L2.upd (L2.upd G1 KA (.lst [])) AN (.lst [])) AN = some (.lst []) := upd_same
    generalize L2.upd (L2.upd G1 KA (.lst [])) AN (.lst []) = G2 at hp2 hK2 hA2 ⊢
    refine ⟨_, rfl, m, rfl, hm, fun L rs G3 s3 hLf hL prs => ⟨L, rfl, ⟨_, SqL.of hL⟩, ?_⟩⟩
    obtain ⟨c8, _, hch⟩ := chs_ok m hm
    have nLp := hp2.ne hLf
    have nLK : L ≠ KA := Ne.symm (ne_of_none hK2 hLf)
    have nLA : L ≠ AN := Ne.symm (ne_of_none hA2 hLf)
    have lrs := TG.paired_len prs
    refine for_list (K := K) (a := L) (xs := rs) (fun j σ G => ∃ (as : List (List Int × Int)) (fs : List (List Int)) (als : List (List (List Int))) (ks vs : List V) (v6 v7 v8 : Option V), σ = [some (.ref sa), some (.ref p), some (.int (0 + (i : Int))), some (.int (m : Int)), some (.ref KA), some (.ref AN), v6, v7, v8, v9, none, v11, none] ∧
      PenAt (3000 * i + 1 + 100 * j) G p c ∧ G L = some (.lst rs) ∧ Paired (TupAt G) rs (chs m) ∧ G KA = some (.lst ks) ∧ Paired (TupAt G) ks (as.map (·.1)) ∧ G AN = some (.lst vs) ∧ Paired (AnsT (fun x => x = KA ∨ x = AN) G) vs as ∧
      All3 ((chs m).take j) fs als ∧ as.map (·.1) = als.flatten ∧ as.map (·.2) = fs.flatten) ?_ ?_ ?_ ?_
    · exact ⟨[], [], [], [], [], _, _, _, rfl, hp2.same s3, hL, prs, s3 _ _ hK2, .nil, s3 _ _ hA2, .nil, .nil, rfl, rfl⟩
    · rintro j σ G _ ⟨_, _, _, _, _, _, _, _, _, _, h, _⟩
      exact SqL.of h
    · rintro j x σ G hx ⟨as, fs, als, ks, vs, v6, v7, v8, rfl, hpj, hLj, prj, hKj, pkj, hAj, pvj, al3, e1, e2⟩
      obtain ⟨ch, hc, a, rfl, hac⟩ := TG.paired_get prj hx
      have hj8 : j < 8 := by
        have := (List.getElem?_eq_some_iff.mp hc).1
        omega
      obtain ⟨hcl, h01⟩ := hch ch (List.mem_of_getElem? hc)
      have nap := tup_ne hpj hac
      have few15 : as.length ≤ 16 := by
        have h1 := al3.few
        rw [← e2, List.length_map] at h1
        refine Nat.le_trans h1 ?_
        have : ∀ l : List (List Int), (l.map fun c => if c.sum = 0 then 1 else 2).sum ≤ 2 * l.length := by
          intro l
          induction l with
          | nil => exact Nat.le_refl _
          | cons y l ih =>
            rw [List.map_cons, List.sum_cons, List.length_cons]
            have : (if y.sum = 0 then 1 else 2) ≤ 2 := by
              by_cases e : y.sum = 0
              · rw [if_pos e]; decide
              · rw [if_neg e]; decide
            omega
        have h2 := this ((chs m).take j)
        rw [List.length_take] at h2
        omega
      refine ⟨_, rfl, _, rfl, p, c, a, ch, 3000 * i + 1 + 100 * j, rfl, hpj, by omega, hac, h01, by omega, fun l Tm G4 k4 hp4 hlT lT hT hmost => ?_⟩
      obtain ⟨hf, hv0, sq⟩ := seq1_ok h01 (by omega) hT hmost
      have cap := asks_cap h01 (by omega) hv0 hf
      have hSK : (fun x => G x ≠ none) KA := by show G KA ≠ none; rw [hKj]; exact fun z => nomatch z
      have hSA : (fun x => G x ≠ none) AN := by show G AN ≠ none; rw [hAj]; exact fun z => nomatch z
      have hSp : (fun x => G x ≠ none) p := by
        obtain ⟨xs, hxs⟩ := hpj.lst
        show G p ≠ none
        rw [hxs]
        exact fun z => nomatch z
      refine ⟨_, rfl, _, rfl, a, l, ch, Tm, rfl, k4 _ _ nap hac, h01, by omega, hlT.at, lT, hT, hf, hv0, fun B rb G5 s5 hBf hB prb => ⟨B, rfl, ⟨_, SqL.of hB⟩, ?_⟩⟩
      generalize hal : asksOf ch (wv (ch.map fun s => 2 * s) Tm) = al at sq cap prb
      have hK4 := k4 _ _ nKp hKj
      have hA4 := k4 _ _ nAp hAj
      have hL4 := k4 _ _ nLp hLj
      have nBp := hp4.ne hBf
      have nBK : B ≠ KA := Ne.symm (ne_of_none hK4 hBf)
      have nBA : B ≠ AN := Ne.symm (ne_of_none hA4 hBf)
      have al2 : al.length ≤ 2 := by
        have h1 := sq.few
        have h2 := sq.len
        have : (if ch.sum = 0 then 1 else 2) ≤ 2 := by
          by_cases e : ch.sum = 0
          · rw [if_pos e]; decide
          · rw [if_neg e]; decide
        omega
      have lrb := TG.paired_len prb
      refine for_list (K := K) (a := B) (xs := rb) (fun t σ G6 => ∃ (as2 : List (List Int × Int)) (ks2 vs2 : List V) (v8 : Option V), σ = [some (.ref sa), some (.ref p), some (.int (0 + (i : Int))), some (.int (m : Int)), some (.ref KA), some (.ref AN), some (.ref a), some (.ref l), v8, v9, none, v11, none] ∧
        PenAt (3000 * i + 1 + 100 * j + 50 + t) G6 p c ∧ G6 B = some (.lst rb) ∧ Paired (TupAt G6) rb al ∧ G6 L = some (.lst rs) ∧ Paired (TupAt G6) rs (chs m) ∧ TermsX (fun x => G x ≠ none) G6 l Tm ∧ G6 KA = some (.lst ks2) ∧ Paired (TupAt G6) ks2 (as2.map (·.1)) ∧ G6 AN = some (.lst vs2) ∧
        Paired (AnsT (fun x => x = KA ∨ x = AN) G6) vs2 as2 ∧ as2.map (·.1) = als.flatten ++ al.take t ∧ as2.map (·.2) = fs.flatten ++ (al.map fun y => wv y Tm).take t) ?_ ?_ ?_ ?_
      · exact ⟨as, ks, vs, _, rfl, hp4.same s5, hB, prb, s5 _ _ hL4, paired_imp (fun _ _ r => (tupAt_keep r hpj k4).same s5) prj, hlT.same s5, s5 _ _ hK4, paired_imp (fun _ _ r => (tupAt_keep r hpj k4).same s5) pkj, s5 _ _ hA4, paired_imp (fun _ _ r => (r.keep hpj k4).same s5) pvj, by rw [List.take_zero, List.append_nil]; exact e1, by rw [List.take_zero, List.append_nil]; exact e2⟩
      · rintro t σ G6 _ ⟨_, _, _, _, _, _, h, _⟩
        exact SqL.of h
      · rintro t x2 σ G6 hx2 ⟨as2, ks2, vs2, v8', rfl, hp6, hB6, prb6, hL6, prs6, hl6, hK6, pk6, hA6, pv6, f1, f2⟩
        obtain ⟨ak, hak, b, rfl, hbk⟩ := TG.paired_get prb6 hx2
        have ht2 : t < 2 := by
          have := (List.getElem?_eq_some_iff.mp hak).1
          omega
        have las2 : as2.length ≤ 18 := by
          have h1 : (as2.map (·.1)).length = als.flatten.length + (al.take t).length := by rw [f1, List.length_append]
          rw [List.length_map, List.length_take] at h1
          have h2 : as.length = als.flatten.length := by rw [← e1, List.length_map]
          omega
        have lk2 := TG.paired_len pk6
        rw [List.length_map] at lk2
        have lv2 := TG.paired_len pv6
        refine ⟨_, rfl, .inl ⟨rfl, _, SqL.of hK6⟩, _, rfl, KA, _, _, rfl, rfl, hK6, small1000 (by omega), ?_⟩
        have hp7 := hp6.upd (o := .lst (ks2 ++ [.ref b])) nKp nKc
        have hB7 : (L2.upd G6 KA (.lst (ks2 ++ [.ref b]))) B = some (.lst rb) := by rw [upd_ne nBK]; exact hB6
        have prb7 : Paired (TupAt (L2.upd G6 KA (.lst (ks2 ++ [.ref b])))) rb al := paired_imp (fun _ _ r => r.updL hK6) prb6
        have hL7 : (L2.upd G6 KA (.lst (ks2 ++ [.ref b]))) L = some (.lst rs) := by rw [upd_ne nLK]; exact hL6
        have prs7 : Paired (TupAt (L2.upd G6 KA (.lst (ks2 ++ [.ref b])))) rs (chs m) := paired_imp (fun _ _ r => r.updL hK6) prs6
        have hl7 := hl6.upd (ys := ks2 ++ [.ref b]) hSK hK6
        have hK7 : (L2.upd G6 KA (.lst (ks2 ++ [.ref b]))) KA = some (.lst (ks2 ++ [.ref b])) := upd_same
        have pk7 : Paired (TupAt (L2.upd G6 KA (.lst (ks2 ++ [.ref b])))) (ks2 ++ [.ref b]) (as2.map (·.1) ++ [ak]) := tups_push hK6 pk6 ⟨b, rfl, hbk⟩
        have hA7 : (L2.upd G6 KA (.lst (ks2 ++ [.ref b]))) AN = some (.lst vs2) := by rw [upd_ne (Ne.symm nKA)]; exact hA6
        have pv7 : Paired (AnsT (fun x => x = KA ∨ x = AN) (L2.upd G6 KA (.lst (ks2 ++ [.ref b])))) vs2 as2 := paired_imp (fun _ _ r => r.upd (.inl rfl) hK6) pv6
        have hb7 : (L2.upd G6 KA (.lst (ks2 ++ [.ref b]))) b = some (.tup (ak.map V.int)) := by rw [upd_ne fun z => by subst z; rw [hK6] at hbk; cases hbk]; exact hbk
        generalize L2.upd G6 KA (.lst (ks2 ++ [.ref b])) = G7 at hp7 hB7 prb7 hL7 prs7 hl7 hK7 pk7 hA7 pv7 hb7 ⊢
        have nbp := tup_ne hp7 hb7
        refine ⟨_, rfl, .inl ⟨rfl, _, SqL.of hA7⟩, _, rfl, p, c, 2, _, rfl, hp7, by omega, Dv.of (by decide) (by decide), fun r G8 r0 r1 k8 hp8 => ⟨rfl, _, rfl, ite_seq (i := 8) rfl (k8 _ _ nbp hb7) fun u G9 s9 hu nu => ?_⟩⟩
        have K8 : ∀ o b', b' ≠ p → G7 b' = some o → G9 b' = some o := fun o b' n h => s9 _ _ (k8 _ _ n h)
        have hb9 := K8 _ _ nbp hb7
        have hl9 := (hl7.keep hp7 k8 hSp).same s9
        have nuK : u ≠ KA := by
          rcases nu with rfl | nu
          · intro z
            subst z
            rw [hK7] at hb7
            cases hb7
          · exact Ne.symm (ne_of_none (k8 _ _ nKp hK7) nu)
        have nuA : u ≠ AN := by
          rcases nu with rfl | nu
          · intro z
            subst z
            rw [hA7] at hb7
            cases hb7
          · exact Ne.symm (ne_of_none (k8 _ _ nAp hA7) nu)
        obtain ⟨hakl, hak0⟩ := sq.a0 ak (List.mem_of_getElem? hak)
        refine ⟨_, rfl, _, rfl, l, b, Tm, ak, ch, rfl, hl9.at, hb9, lT, hT, hakl, by omega, fun n hn => ⟨hak0 n hn, cap ak (List.mem_of_getElem? hak) n hn⟩, fun G10 s10 => ⟨(by show 2 ≤ sizeLine; decide), fun tt htt => ?_⟩⟩
        have s11 := s10.trans (new_same (o := .tup [.ref u, .int (wv ak Tm)]) htt)
        have s911 := s9.trans s11
        have K11 : ∀ o b', b' ≠ p → G7 b' = some o → (L2.upd G10 tt (.tup [.ref u, .int (wv ak Tm)])) b' = some o := fun o b' n h => s911 _ _ (k8 _ _ n h)
        have hA11 := K11 _ _ nAp hA7
        have hu11 := hu.imp (s11 _ _) (s11 _ _)
        have htt11 : (L2.upd G10 tt (.tup [.ref u, .int (wv ak Tm)])) tt = some (.tup [.ref u, .int (wv ak Tm)]) := upd_same
        have hp11 := (hp8.same s911).up (Nat.le_refl _)
        have T11 : ∀ r e, TupAt G7 r e → TupAt (L2.upd G10 tt (.tup [.ref u, .int (wv ak Tm)])) r e := fun r e h => (tupAt_keep h hp7 k8).same s911
        have pv11 : Paired (AnsT (fun x => x = KA ∨ x = AN) (L2.upd G10 tt (.tup [.ref u, .int (wv ak Tm)]))) vs2 as2 := paired_imp (fun _ _ r => (r.keep hp7 k8).same s911) pv7
        have hl11 := hl9.same s11
        have hB11 := K11 _ _ nBp hB7
        have hL11 := K11 _ _ nLp hL7
        have hK11 := K11 _ _ nKp hK7
        have prb11 := paired_imp T11 prb7
        have prs11 := paired_imp T11 prs7
        have pk11 := paired_imp T11 pk7
        generalize L2.upd G10 tt (.tup [.ref u, .int (wv ak Tm)]) = G11 at hA11 hu11 htt11 hp11 pv11 hl11 hB11 hL11 hK11 prb11 prs11 pk11 ⊢
        refine ⟨AN, _, _, rfl, rfl, hA11, small1000 (by omega), as2 ++ [(ak, wv ak Tm)], ks2 ++ [.ref b], vs2 ++ [.ref tt], _, rfl, (hp11.upd nAp nAc).up (by omega), by rw [upd_ne nBA]; exact hB11, paired_imp (fun _ _ r => r.updL hA11) prb11, by rw [upd_ne nLA]; exact hL11, paired_imp (fun _ _ r => r.updL hA11) prs11, hl11.upd hSA hA11, by rw [upd_ne nKA]; exact hK11, ?_, upd_same, ?_, ?_, ?_⟩
        · rw [List.map_append]
          exact paired_imp (fun _ _ r => r.updL hA11) pk11
        · exact paired_snoc (AnsT.upd ⟨tt, u, rfl, htt11, hu11, fun z => z.elim nuK nuA⟩ (.inr rfl) hA11) (paired_imp (fun _ _ r => r.upd (.inr rfl) hA11) pv11)
        · rw [List.map_append, f1, take_more hak, List.append_assoc]
          rfl
        · rw [List.map_append, f2, take_more (x := wv ak Tm) (by rw [List.getElem?_map, hak]; rfl), List.append_assoc]
          rfl
      · rintro σ G6 ⟨as2, ks2, vs2, v8', rfl, hp6, hB6, prb6, hL6, prs6, hl6, hK6, pk6, hA6, pv6, f1, f2⟩
        rw [lrb, List.take_length] at f1
        rw [lrb, List.take_of_length_le (by rw [List.length_map]; exact Nat.le_refl _)] at f2
        refine ⟨as2, fs ++ [al.map fun y => wv y Tm], als ++ [al], ks2, vs2, _, _, _, rfl, hp6.up (by omega), hL6, prs6, hK6, pk6, hA6, pv6, ?_, ?_, ?_⟩
        · rw [take_more hc]
          exact All3.snoc sq al3
        · rw [f1, List.flatten_append]
          simp
        · rw [f2, List.flatten_append]
          simp
    rintro σ G ⟨as, fs, als, ks, vs, v6, v7, v8, rfl, hpj, hLj, prj, hKj, pkj, hAj, pvj, al3, e1, e2⟩
    have lch := TG.paired_len prj
    rw [lch, List.take_length] at al3
    rw [lch] at hpj
    have lks := TG.paired_len pkj
    rw [List.length_map] at lks
    have lvs := TG.paired_len pvj
    have tot : as.length = fs.flatten.length := by rw [← e2, List.length_map]
    have few := al3.few
    have lim : ∀ m, m ≤ 3 → ((chs m).map fun c => if c.sum = 0 then 1 else 2).sum + 1 ≤ 2 * 2 ^ m ∧ 2 * 2 ^ m ≤ 16 := by
      have h : ∀ m, m < 4 → ((chs m).map fun c => if c.sum = 0 then 1 else 2).sum + 1 ≤ 2 * 2 ^ m ∧ 2 * 2 ^ m ≤ 16 := by decide +kernel
      exact fun m hm => h m (by omega)
    obtain ⟨lim1, lim2⟩ := lim m hm
    have la16 : as.length ≤ 16 := by omega
    have hok : AnsOk m as := by
      obtain ⟨q1, q2⟩ := al3.all (p := fun a => a.length = m ∧ ∀ n ∈ a, 0 ≤ n) (q := fun v => 0 ≤ v) fun c f al hc sq => ⟨fun a ha => by
        obtain ⟨z1, z2⟩ := sq.a0 a ha
        exact ⟨by rw [z1]; exact (hch c hc).1, z2⟩, sq.v0⟩
      intro e he
      obtain ⟨z1, z2⟩ := q1 e.1 (by rw [← e1]; exact List.mem_map.mpr ⟨e, he, rfl⟩)
      exact ⟨z1, z2, q2 e.2 (by rw [← e2]; exact List.mem_map.mpr ⟨e, he, rfl⟩)⟩
    have runT : ∀ t, t ≤ as.length → TG.run (chs m) ((chs m).map fun _ => []) (as.take t) = some (st fs t) := by
      intro t ht
      have := run_st al3 e1 e2 t 0 (by omega)
      rw [List.drop_zero, st_zero, al3.map, Nat.zero_add] at this
      exact this
    have pw : ((2 : Int) ^ m) = ((2 ^ m : Nat) : Int) := by rw [Int.natCast_pow]; rfl
    refine ⟨_, rfl, KA, _, rfl, .inl (SqL.of hKj), _, rfl, 2, m, 1, rfl, by decide, by decide, by omega, by omega, _, _, rfl, rfl, .inl ⟨by decide, by decide⟩, _, _, rfl, rfl, _, _, rfl, rfl, _, rfl, ?_⟩
    rw [decide_eq_false (by rw [pw]; omega)]
    refine iteF ?_
    refine ⟨_, rfl, AN, rfl, ⟨_, SqL.of hAj⟩, fun D1 hD1 => ?_⟩
    refine lc_list (K := K) (a := AN) (xs := vs) (fun t G5 => Same G G5 ∧ ∃ ds, G5 D1 = some (.lst ds) ∧ ds.length = t ∧ Paired (KeptAt K G5) ds (as.take t)) ?_ ?_ ?_ ?_
    · exact ⟨new_same hD1, [], upd_same, rfl, .nil⟩
    · rintro t G5 _ ⟨s5, _⟩
      exact SqL.of (s5 _ _ hAj)
    · rintro t x G5 hx ⟨s5, ds, hd, ld, pd⟩
      obtain ⟨e, he, ea⟩ := TG.paired_get pvj hx
      obtain ⟨a, b, rfl, ha, hb, _⟩ := ea.same s5
      have ht := (List.getElem?_eq_some_iff.mp he).1
      refine ⟨a, _, rfl, SqT.of ha, rfl, _, _, rfl, _, _, rfl, rfl, rfl, _, rfl, b, e.1.map V.int, rfl, SqX.of hb, fun b2 G6 s6 hb2 => ⟨_, rfl, (by show 2 ≤ sizeLine; decide), fun z hz => ?_⟩⟩
      have sz := new_same (o := .tup [.ref b2, .int e.2]) hz
      have hd7 := sz _ _ (s6 _ _ hd)
      refine ⟨ds, hd7, small1000 (by omega), same_put (s5.trans (s6.trans sz)) hD1, ds ++ [.ref z], upd_same, by rw [List.length_append, ld]; rfl, ?_⟩
      rw [take_more he]
      exact paired_snoc (KeptAt.upd ⟨z, b2, rfl, upd_same, sqT_same hb2 sz⟩ hd7) (paired_imp (fun _ _ r => ((r.same s6).same sz).upd hd7) pd)
    rintro G2 ⟨s2, dsD1, hdD1, ldD1, dp1⟩
    rw [lvs, List.take_length] at dp1
    have hA2 := s2 _ _ hAj
    have pv2 := paired_imp (fun _ _ r => AnsT.same r s2) pvj
    refine ⟨_, rfl, KA, _, rfl, .inl (SqL.of (s2 _ _ hKj)), (ks.length : Int), rfl, by omega, by omega, ?_⟩
    refine for_range (lo := 0) (n := (ks.length : Int).toNat) (fun t σ G5 => (∃ v11, σ = [some (.ref sa), some (.ref p), some (.int (0 + (i : Int))), some (.int (m : Int)), some (.ref KA), some (.ref AN), v6, v7, v8, some (.ref D1), none, v11, none]) ∧ Same G2 G5) ⟨⟨_, rfl⟩, fun _ _ e => e⟩ ?_ ?_
    · rintro t σ G5 ht ⟨⟨v11', rfl⟩, s5⟩
      have ht2 : t < as.length := by omega
      have hA5 := s5 _ _ hA2
      have hK5 := s5 _ _ (s2 _ _ hKj)
      refine ⟨_, rfl, _, rfl, _, rfl, _, rfl, AN, _, rfl, SqL.of hA5, fun sl hsl => ?_⟩
      rw [show ((0 : Int) + (t : Int)) = ((t : Nat) : Int) from Int.zero_add _, cut_to vs t (by omega)]
      have ss := new_same (o := .lst (vs.take t)) hsl
      obtain ⟨i2, ra, rv, g1, g2, g3, _⟩ := st_step al3 t (by omega)
      have pvt : Paired (AnsAt (L2.upd G5 sl (.lst (vs.take t)))) (vs.take t) (as.take t) := paired_take t (paired_imp (fun _ _ r => ((AnsT.same r s5).same ss).at) pv2)
      refine ⟨m, .ref sl, as.take t, st fs t, rfl, ⟨sl, _, rfl, .inl upd_same, pvt⟩, hm, fun e he => hok e (List.mem_of_mem_take he), by rw [List.length_take]; omega, runT t (Nat.le_of_lt ht2), fun e => (nomatch g3.symm.trans e), fun i3 r3 u G6 e3 s6 hu => ?_⟩
      cases Option.some.inj (g3.symm.trans e3)
      rw [← e1] at g1
      obtain ⟨x4, hx4, b4, rfl, hb4⟩ := paired_of pkj g1
      have s26 := (s2.trans s5).trans (ss.trans s6)
      refine ⟨_, rfl, _, rfl, KA, _, _, _, rfl, rfl, SqL.of (s26 _ _ hKj), atI_nat (j := t) hx4, u, b4, ra, rfl, hu, s26 _ _ hb4, ?_, fun G7 s7 => ⟨_, rfl, iteF ⟨⟨_, rfl⟩, s5.trans ((ss.trans s6).trans s7)⟩⟩⟩
      have h9 : ra.length = m := (hok (ra, rv) (by
        rw [← e2] at g2
        rw [List.getElem?_map] at g1 g2
        obtain ⟨ee, he, h1⟩ := Option.map_eq_some_iff.mp g1
        rw [he] at g2
        cases h1
        cases Option.some.inj g2
        exact List.mem_of_getElem? he)).1
      show ra.length ≤ 100
      omega
    rintro σ G3 ⟨⟨v11', rfl⟩, s3⟩
    have hA3 := s3 _ _ hA2
    have pv3 := paired_imp (fun _ _ r => AnsT.same r s3) pv2
    refine ⟨_, rfl, AN, rfl, ⟨_, SqL.of hA3⟩, fun D2 hD2 => ?_⟩
    refine lc_list (K := K) (a := AN) (xs := vs) (fun t G5 => Same G3 G5 ∧ ∃ ds, G5 D2 = some (.lst ds) ∧ ds.length = t ∧ Paired (AnsL1 (fun x => x = D2) G5) ds (as.take t)) ?_ ?_ ?_ ?_
    · exact ⟨new_same hD2, [], upd_same, rfl, .nil⟩
    · rintro t G5 _ ⟨s5, _⟩
      exact SqL.of (s5 _ _ hA3)
    · rintro t x G5 hx ⟨s5, ds, hd, ld, pd⟩
      obtain ⟨e, he, ea⟩ := TG.paired_get pv3 hx
      obtain ⟨a, b, rfl, ha, hb, _⟩ := ea
      have ht := (List.getElem?_eq_some_iff.mp he).1
      have nb : b ≠ D2 := fun z => by
        subst z
        rcases hb with h | h <;> (rw [hD2] at h; cases h)
      refine ⟨rfl, _, rfl, a, _, rfl, .inr (SqT.of (s5 _ _ ha)), fun z hz => ?_⟩
      have sz := new_same (o := .lst [.ref b, .int e.2]) hz
      have hd7 := sz _ _ hd
      have nz : z ≠ D2 := Ne.symm (ne_of_none hd hz)
      refine ⟨ds, hd7, small1000 (by omega), same_put (s5.trans sz) hD2, ds ++ [.ref z], upd_same, by rw [List.length_append, ld]; rfl, ?_⟩
      rw [take_more he]
      exact paired_snoc (AnsL1.upd (S := fun x => x = D2) ⟨z, b, rfl, upd_same, (hb.imp (s5 _ _) (s5 _ _)).imp (sz _ _) (sz _ _), nz, nb⟩ rfl hd7) (paired_imp (fun _ _ r => AnsL1.upd (S := fun x => x = D2) (AnsL1.same r sz) rfl hd7) pd)
    rintro G4 ⟨s4, ds2, hd2, ld2, pd2⟩
    rw [lvs, List.take_length] at pd2
    refine ⟨D2, _, rfl, .inl ⟨SqL.of hd2, fun tp htp => ?_⟩⟩
    have stp := new_same (o := .tup ds2) htp
    refine ⟨_, rfl, rfl, rfl, m, .ref tp, as, st fs as.length, rfl, ⟨tp, _, rfl, .inr upd_same, paired_imp (fun _ _ r => (AnsL1.same r stp).at) pd2⟩, hm, hok, by omega, (by have := runT as.length (Nat.le_refl _); rw [List.take_length] at this; exact this), fun _ Ga s5a => ?_, fun i3 r3 u G6 e3 _ _ => ?_⟩
    · refine ⟨rfl, _, rfl, iteF ?_⟩
      have s35 := (s4.trans stp).trans s5a
      have hA5 := s35 _ _ hA3
      have pv5 := paired_imp (fun _ _ r => AnsT.same r s35) pv3
      refine ⟨_, rfl, AN, rfl, ⟨_, SqL.of hA5⟩, fun D3 hD3 => ?_⟩
      refine lc_list (K := K) (a := AN) (xs := vs) (fun t G5 => Same Ga G5 ∧ ∃ ds, G5 D3 = some (.lst ds) ∧ ds.length = t ∧ Paired (KeptAt K G5) ds (as.take t)) ?_ ?_ ?_ ?_
      · exact ⟨new_same hD3, [], upd_same, rfl, .nil⟩
      · rintro t G5 _ ⟨s5, _⟩
        exact SqL.of (s5 _ _ hA5)
      · rintro t x G5 hx ⟨s5, ds, hd, ld, pd⟩
        obtain ⟨e, he, ea⟩ := TG.paired_get pv5 hx
        obtain ⟨a, b, rfl, ha, hb, _⟩ := ea.same s5
        have ht := (List.getElem?_eq_some_iff.mp he).1
        refine ⟨a, _, rfl, SqT.of ha, rfl, _, _, rfl, _, _, rfl, rfl, rfl, _, rfl, b, e.1.map V.int, rfl, SqX.of hb, fun b2 G6 s6 hb2 => ⟨_, rfl, (by show 2 ≤ sizeLine; decide), fun z hz => ?_⟩⟩
        have sz := new_same (o := .tup [.ref b2, .int e.2]) hz
        have hd7 := sz _ _ (s6 _ _ hd)
        refine ⟨ds, hd7, small1000 (by omega), same_put (s5.trans (s6.trans sz)) hD3, ds ++ [.ref z], upd_same, by rw [List.length_append, ld]; rfl, ?_⟩
        rw [take_more he]
        exact paired_snoc (KeptAt.upd ⟨z, b2, rfl, upd_same, sqT_same hb2 sz⟩ hd7) (paired_imp (fun _ _ r => ((r.same s6).same sz).upd hd7) pd)
      rintro Gb ⟨s6, dsD3, hdD3, ldD3, dp3⟩
      rw [lvs, List.take_length] at dp3
      have s26 := (s3.trans s35).trans s6
      refine ⟨_, rfl, .list (as.map ansD), .list (as.map ansD), .lst (SqL.of hdD3) (kept_dp dp3), .lst (SqL.of (s26 _ _ hdD1)) (kept_dp (paired_imp (fun _ _ r => r.same s26) dp1)), ans_shaped as, ans_shaped as, _, rfl, ?_⟩
      rw [SeqAt.eqv_refl _ (SeqAt.canLay_of_shaped (ans_shaped as))]
      exact iteF ⟨⟨_, _, _, _, _, _, _, _, _, rfl⟩, (hpj.same (s2.trans s26)).up (by omega)⟩
    · exact nomatch (st_fin al3 as.length (by omega)).symm.trans e3
  · rintro σ G ⟨⟨v2, v3, v4, v5, v6, v7, v8, v9, v11, rfl⟩, hpi⟩
    refine ⟨(by show 0 ≤ sizeLine; decide), fun e0 he0 => ?_⟩
    have s0 := new_same (o := .lst []) he0
    refine ⟨0, .ref e0, [], [[]], rfl, ⟨e0, [], rfl, .inl upd_same, .nil⟩, by decide, (fun _ h => nomatch h), Nat.zero_le _, rfl, (fun e => nomatch (show some ((0 : Nat), ([] : List Int)) = none from e)), fun i r u H2 e s2 hu => ?_⟩
    cases Option.some.inj (show some ((0 : Nat), ([] : List Int)) = some (i, r) from e)
    refine ⟨(by show 0 ≤ sizeLine; decide), fun t ht => ?_⟩
    have st := new_same (o := .tup []) ht
    refine ⟨.tuple [], .tuple [], .tup (SqT.of (st _ _ hu)) .nil, .tup (SqT.of upd_same) .nil, rfl, rfl, _, rfl, iteT ?_⟩
    generalize L2.upd H2 t (.tup []) = H3
    refine ⟨(by show 1 ≤ sizeLine; decide), fun t1 ht1 => ⟨_, _, rfl, rfl, ⟨by decide, by decide, by decide⟩, (by show 2 ≤ sizeLine; decide), fun t2 ht2 => ⟨(by show 1 ≤ sizeLine; decide), fun l hl => ?_⟩⟩⟩
    have s1 := new_same (o := .tup [.int 0]) ht1
    have hv : (0 : Int) ≤ 10 ^ (60 : Int).toNat := Int.pow_nonneg (by decide)
    dsimp only at ht2 hl ⊢
    generalize (10 : Int) ^ (60 : Int).toNat = v at ht2 hl hv ⊢
    have s2 := new_same (o := .tup [.ref t1, .int v]) ht2
    have s3 := new_same (o := .lst [.ref t2]) hl
    refine ⟨1, .ref l, [([0], v)], [[v], []], rfl, ⟨l, _, rfl, .inl upd_same, .cons ⟨t2, .ref t1, rfl, .inr (s3 _ _ upd_same), t1, rfl, .inr (s3 _ _ (s2 _ _ upd_same))⟩ .nil⟩, by decide, fun e he => ?_, by show 1 ≤ 100; decide, rfl, (fun e => nomatch (show some ((1 : Nat), ([2] : List Int)) = none from e)), fun i r u H4 e s4 hu => ?_⟩
    · rw [List.mem_singleton.mp he]
      exact ⟨rfl, fun n hn => by rw [List.mem_singleton.mp hn]; exact Int.le_refl 0, hv⟩
    cases Option.some.inj (show some ((1 : Nat), ([2] : List Int)) = some (i, r) from e)
    refine ⟨(by show 1 ≤ sizeLine; decide), fun t3 ht3 => ?_⟩
    have st3 := new_same (o := .tup [.int 2]) ht3
    exact ⟨.tuple [.int 2], .tuple [.int 2], .tup (SqT.of (st3 _ _ hu)) (.cons (.int 2) .nil), .tup (SqT.of upd_same) (.cons (.int 2) .nil), rfl, rfl, q _⟩
end
end TF51
namespace TF51
open PySem PySem.Spec L2 TG TA
open PyProof.Rows hiding St
section
variable {K : PySem.W.Frag} {x qual : Str} {st : Stmt} {f : Addr} {fd : FuncData} {ps ks : List Str} {n : Nat}
theorem fun_kb {g : List Value → List Value → List Value} {gV : List V → List V → List V} (F : Fun K x qual st f fd)
    (h : ∀ (kV doc pm : Value) (an : Option Addr) (cdv ct : Value) (us ws : List Value), us.length = n → ws.length = ks.length → bindArgs (PySem.W.fnOf x qual (defArgs st) (defBody st) (defScope st) .none kV doc pm an cdv ct) ⟨us, ks.zip ws⟩ = pure (ps.zip (g us ws)))
    (r : ∀ {vs : List V} {us : List Value} {zs : List V} {ws : List Value}, Vals vs us → Vals zs ws → Vals (gV vs zs) (g us ws)) : KBn K fd ps n ks g gV := by
  obtain ⟨oc, od, kV, doc, pm, an, cdv, ct, osl, rfl, lk, hcd⟩ := F.ex
  exact ⟨fun s us ws _ h1 h2 => .of_eq (h kV doc pm an cdv ct us ws h1 h2), r⟩
end
theorem all_mk {l : PySem.W.OpenLaw} {w : World} {K : PySem.W.Frag} {h : Heap} {mg : Str → Option Value} {fa : Addr} (X : K.In h) (G : h.Ns mainGlobals mg) (hfa : mg "law" = some (.ref fa))
    {tM3 tF1 tF2 tF3 : Tok} {aF : Addr} {nF : Nat} {odF : Option Addr} {oslF : Array (Option Value)}
    {f1 : Addr} {d1 : FuncData}
    {f2 : Addr} {d2 : FuncData}
    {f3 : Addr} {d3 : FuncData}
    {f15 : Addr} {d15 : FuncData}
    {f17 : Addr} {d17 : FuncData}
    {f19 : Addr} {d19 : FuncData}
    {f26 : Addr} {d26 : FuncData}
    {f25 : Addr} {d25 : FuncData}
    {f24 : Addr} {d24 : FuncData}
    {f27 : Addr} {d27 : FuncData}
    {f6 : Addr} {d6 : FuncData}
    {f5 : Addr} {d5 : FuncData}
    {f23 : Addr} {d23 : FuncData}
    {f22 : Addr} {d22 : FuncData}
    {f29 : Addr} {d29 : FuncData}
    {f30 : Addr} {d30 : FuncData}
    {f31 : Addr} {d31 : FuncData}
    {f32 : Addr} {d32 : FuncData}
    {f33 : Addr} {d33 : FuncData}
    {f34 : Addr} {d34 : FuncData}
    {f35 : Addr} {d35 : FuncData}
    {f36 : Addr} {d36 : FuncData}
    {f37 : Addr} {d37 : FuncData}
    {f38 : Addr} {d38 : FuncData}
    {f39 : Addr} {d39 : FuncData}
    (b_ValueError : PySem.W.nsIn K mainGlobals "ValueError" = some none)
    (b_abs : PySem.W.nsIn K mainGlobals "abs" = some none)
    (b_all : PySem.W.nsIn K mainGlobals "all" = some none)
    (b_bool : PySem.W.nsIn K mainGlobals "bool" = some none)
    (b_enumerate : PySem.W.nsIn K mainGlobals "enumerate" = some none)
    (b_int : PySem.W.nsIn K mainGlobals "int" = some none)
    (b_isinstance : PySem.W.nsIn K mainGlobals "isinstance" = some none)
    (b_len : PySem.W.nsIn K mainGlobals "len" = some none)
    (b_list : PySem.W.nsIn K mainGlobals "list" = some none)
    (b_range : PySem.W.nsIn K mainGlobals "range" = some none)
    (b_sorted : PySem.W.nsIn K mainGlobals "sorted" = some none)
    (b_sum : PySem.W.nsIn K mainGlobals "sum" = some none)
    (b_tuple : PySem.W.nsIn K mainGlobals "tuple" = some none)
    (b_zip : PySem.W.nsIn K mainGlobals "zip" = some none)
    (vM3 : PySem.W.nsIn K mainGlobals "MOST_NUMBERS" = some (some (.int 3 tM3)))
    (vF : PySem.W.nsIn K mainGlobals "FIRST_VALUES" = some (some (.ref aF)))
    (loF : K.lookup aF = some ⟨.type "tuple", odF, .seq #[.none, .int 1000000000000000000 tF1, .int 10000 tF2, .int 200 tF3] nF, oslF⟩)
    (a1 : PySem.W.nsIn K mainGlobals "is_integer" = some (some (.ref f1)))
    (F1 : Fun K "is_integer" "is_integer" sInt f1 d1)
    (a2 : PySem.W.nsIn K mainGlobals "is_within" = some (some (.ref f2)))
    (F2 : Fun K "is_within" "is_within" sWithin f2 d2)
    (a3 : PySem.W.nsIn K mainGlobals "are_numbers" = some (some (.ref f3)))
    (F3 : Fun K "are_numbers" "are_numbers" sNums f3 d3)
    (a15 : PySem.W.nsIn K mainGlobals "check_many" = some (some (.ref f15)))
    (F15 : Fun K "check_many" "check_many" sCM f15 d15)
    (a17 : PySem.W.nsIn K mainGlobals "choices" = some (some (.ref f17)))
    (F17 : Fun K "choices" "choices" sChs f17 d17)
    (a19 : PySem.W.nsIn K mainGlobals "ladder" = some (some (.ref f19)))
    (F19 : Fun K "ladder" "ladder" sLad f19 d19)
    (a26 : PySem.W.nsIn K mainGlobals "base_of" = some (some (.ref f26)))
    (F26 : Fun K "base_of" "base_of" sBase f26 d26)
    (a25 : PySem.W.nsIn K mainGlobals "asked_of" = some (some (.ref f25)))
    (F25 : Fun K "asked_of" "asked_of" sAsked f25 d25)
    (a24 : PySem.W.nsIn K mainGlobals "next_in" = some (some (.ref f24)))
    (F24 : Fun K "next_in" "next_in" sNext f24 d24)
    (a27 : PySem.W.nsIn K mainGlobals "refuse_value" = some (some (.ref f27)))
    (F27 : Fun K "refuse_value" "refuse_value" sRef f27 d27)
    (a6 : PySem.W.nsIn K mainGlobals "is_answer" = some (some (.ref f6)))
    (F6 : Fun K "is_answer" "is_answer" sIsA f6 d6)
    (a5 : PySem.W.nsIn K mainGlobals "are_answers" = some (some (.ref f5)))
    (F5 : Fun K "are_answers" "are_answers" sAreA f5 d5)
    (a23 : PySem.W.nsIn K mainGlobals "values_told" = some (some (.ref f23)))
    (F23 : Fun K "values_told" "values_told" sTold f23 d23)
    (a22 : PySem.W.nsIn K mainGlobals "next_ask" = some (some (.ref f22)))
    (F22 : Fun K "next_ask" "next_ask" sNA f22 d22)
    (a29 : PySem.W.nsIn K mainGlobals "_law_sack" = some (some (.ref f29)))
    (F29 : Fun K "_law_sack" "_law_sack" sPen f29 d29)
    (a30 : PySem.W.nsIn K mainGlobals "_law_take" = some (some (.ref f30)))
    (F30 : Fun K "_law_take" "_law_take" sDraw f30 d30)
    (a31 : PySem.W.nsIn K mainGlobals "_law_pick" = some (some (.ref f31)))
    (F31 : Fun K "_law_pick" "_law_pick" sPick f31 d31)
    (a32 : PySem.W.nsIn K mainGlobals "_law_power" = some (some (.ref f32)))
    (F32 : Fun K "_law_power" "_law_power" sPw f32 d32)
    (a33 : PySem.W.nsIn K mainGlobals "_law_choices" = some (some (.ref f33)))
    (F33 : Fun K "_law_choices" "_law_choices" sLC f33 d33)
    (a34 : PySem.W.nsIn K mainGlobals "_law_terms" = some (some (.ref f34)))
    (F34 : Fun K "_law_terms" "_law_terms" sTm f34 d34)
    (a35 : PySem.W.nsIn K mainGlobals "_law_worth" = some (some (.ref f35)))
    (F35 : Fun K "_law_worth" "_law_worth" sWo f35 d35)
    (a36 : PySem.W.nsIn K mainGlobals "_law_second" = some (some (.ref f36)))
    (F36 : Fun K "_law_second" "_law_second" sSe f36 d36)
    (a37 : PySem.W.nsIn K mainGlobals "_law_asks" = some (some (.ref f37)))
    (F37 : Fun K "_law_asks" "_law_asks" sAs f37 d37)
    (a38 : PySem.W.nsIn K mainGlobals "_law_is_numbers" = some (some (.ref f38)))
    (F38 : Fun K "_law_is_numbers" "_law_is_numbers" sIN f38 d38)
    (a39 : PySem.W.nsIn K mainGlobals "law" = some (some (.ref f39)))
    (F39 : Fun K "law" "law" sLaw f39 d39)
    : ∃ fd : FuncData, (∀ (s : Shared) (v : Value), BindsTo s fd ⟨[v], []⟩ [("script", v)]) ∧ ∀ base : Heap, K.In base → base.Ns mainGlobals mg → FnOk l.prog w K mg base CX0 8 fa fd ["script"] (spLaw K) := by
  have e := hfa.symm.trans (PySem.W.mg_of X G a39)
  cases e
  have T : Bn mg := ⟨PySem.W.mg_none_of X G b_ValueError, PySem.W.mg_none_of X G b_abs, PySem.W.mg_none_of X G b_all, PySem.W.mg_none_of X G b_bool, PySem.W.mg_none_of X G b_enumerate, PySem.W.mg_none_of X G b_int, PySem.W.mg_none_of X G b_isinstance, PySem.W.mg_none_of X G b_len, PySem.W.mg_none_of X G b_list, PySem.W.mg_none_of X G b_range, PySem.W.mg_none_of X G b_sorted, PySem.W.mg_none_of X G b_sum, PySem.W.mg_none_of X G b_tuple, PySem.W.mg_none_of X G b_zip⟩
  have D_is_integer : Df K mg "is_integer" sInt f1 d1 ["value"] := ⟨F1, PySem.W.mg_of X G a1, F1.binds (ps := ["value"]) fun _ _ _ _ _ _ us hl => match us, hl with | [_], _ => rfl⟩
  have D_is_within : Df K mg "is_within" sWithin f2 d2 ["value", "least", "most"] := ⟨F2, PySem.W.mg_of X G a2, F2.binds (ps := ["value", "least", "most"]) fun _ _ _ _ _ _ us hl => match us, hl with | [_, _, _], _ => rfl⟩
  have D_are_numbers : Df K mg "are_numbers" sNums f3 d3 ["value"] := ⟨F3, PySem.W.mg_of X G a3, F3.binds (ps := ["value"]) fun _ _ _ _ _ _ us hl => match us, hl with | [_], _ => rfl⟩
  have D_check_many : Df K mg "check_many" sCM f15 d15 ["many"] := ⟨F15, PySem.W.mg_of X G a15, F15.binds (ps := ["many"]) fun _ _ _ _ _ _ us hl => match us, hl with | [_], _ => rfl⟩
  have D_choices : Df K mg "choices" sChs f17 d17 ["many"] := ⟨F17, PySem.W.mg_of X G a17, F17.binds (ps := ["many"]) fun _ _ _ _ _ _ us hl => match us, hl with | [_], _ => rfl⟩
  have D_ladder : Df K mg "ladder" sLad f19 d19 ["number", "most"] := ⟨F19, PySem.W.mg_of X G a19, F19.binds (ps := ["number", "most"]) fun _ _ _ _ _ _ us hl => match us, hl with | [_, _], _ => rfl⟩
  have D_base_of : Df K mg "base_of" sBase f26 d26 ["first"] := ⟨F26, PySem.W.mg_of X G a26, F26.binds (ps := ["first"]) fun _ _ _ _ _ _ us hl => match us, hl with | [_], _ => rfl⟩
  have D_asked_of : Df K mg "asked_of" sAsked f25 d25 ["choice", "values"] := ⟨F25, PySem.W.mg_of X G a25, F25.binds (ps := ["choice", "values"]) fun _ _ _ _ _ _ us hl => match us, hl with | [_, _], _ => rfl⟩
  have D_next_in : Df K mg "next_in" sNext f24 d24 ["many", "told"] := ⟨F24, PySem.W.mg_of X G a24, F24.binds (ps := ["many", "told"]) fun _ _ _ _ _ _ us hl => match us, hl with | [_, _], _ => rfl⟩
  have D_refuse_value : Df K mg "refuse_value" sRef f27 d27 ["choice", "values", "value"] := ⟨F27, PySem.W.mg_of X G a27, F27.binds (ps := ["choice", "values", "value"]) fun _ _ _ _ _ _ us hl => match us, hl with | [_, _, _], _ => rfl⟩
  have D_is_answer : Df K mg "is_answer" sIsA f6 d6 ["many", "value"] := ⟨F6, PySem.W.mg_of X G a6, F6.binds (ps := ["many", "value"]) fun _ _ _ _ _ _ us hl => match us, hl with | [_, _], _ => rfl⟩
  have D_are_answers : Df K mg "are_answers" sAreA f5 d5 ["many", "value"] := ⟨F5, PySem.W.mg_of X G a5, F5.binds (ps := ["many", "value"]) fun _ _ _ _ _ _ us hl => match us, hl with | [_, _], _ => rfl⟩
  have D_values_told : Df K mg "values_told" sTold f23 d23 ["many", "answers"] := ⟨F23, PySem.W.mg_of X G a23, F23.binds (ps := ["many", "answers"]) fun _ _ _ _ _ _ us hl => match us, hl with | [_, _], _ => rfl⟩
  have D_next_ask : Df K mg "next_ask" sNA f22 d22 ["many", "answers"] := ⟨F22, PySem.W.mg_of X G a22, F22.binds (ps := ["many", "answers"]) fun _ _ _ _ _ _ us hl => match us, hl with | [_, _], _ => rfl⟩
  have D__law_sack : Df K mg "_law_sack" sPen f29 d29 ["script"] := ⟨F29, PySem.W.mg_of X G a29, F29.binds (ps := ["script"]) fun _ _ _ _ _ _ us hl => match us, hl with | [_], _ => rfl⟩
  have D__law_take : Df K mg "_law_take" sDraw f30 d30 ["sack", "many"] := ⟨F30, PySem.W.mg_of X G a30, F30.binds (ps := ["sack", "many"]) fun _ _ _ _ _ _ us hl => match us, hl with | [_, _], _ => rfl⟩
  have D__law_pick : Df K mg "_law_pick" sPick f31 d31 ["sack", "some"] := ⟨F31, PySem.W.mg_of X G a31, F31.binds (ps := ["sack", "some"]) fun _ _ _ _ _ _ us hl => match us, hl with | [_, _], _ => rfl⟩
  have D__law_power : Df K mg "_law_power" sPw f32 d32 ["number", "times"] := ⟨F32, PySem.W.mg_of X G a32, F32.binds (ps := ["number", "times"]) fun _ _ _ _ _ _ us hl => match us, hl with | [_, _], _ => rfl⟩
  have D__law_choices : Df K mg "_law_choices" sLC f33 d33 ["many"] := ⟨F33, PySem.W.mg_of X G a33, F33.binds (ps := ["many"]) fun _ _ _ _ _ _ us hl => match us, hl with | [_], _ => rfl⟩
  have D__law_terms : Df K mg "_law_terms" sTm f34 d34 ["sack", "choice"] := ⟨F34, PySem.W.mg_of X G a34, F34.binds (ps := ["sack", "choice"]) fun _ _ _ _ _ _ us hl => match us, hl with | [_, _], _ => rfl⟩
  have D__law_worth : Df K mg "_law_worth" sWo f35 d35 ["terms", "numbers"] := ⟨F35, PySem.W.mg_of X G a35, F35.binds (ps := ["terms", "numbers"]) fun _ _ _ _ _ _ us hl => match us, hl with | [_, _], _ => rfl⟩
  have D__law_second : Df K mg "_law_second" sSe f36 d36 ["choice", "value"] := ⟨F36, PySem.W.mg_of X G a36, F36.binds (ps := ["choice", "value"]) fun _ _ _ _ _ _ us hl => match us, hl with | [_, _], _ => rfl⟩
  have D__law_asks : Df K mg "_law_asks" sAs f37 d37 ["choice", "terms"] := ⟨F37, PySem.W.mg_of X G a37, F37.binds (ps := ["choice", "terms"]) fun _ _ _ _ _ _ us hl => match us, hl with | [_, _], _ => rfl⟩
  have D__law_is_numbers : Df K mg "_law_is_numbers" sIN f38 d38 ["told", "due"] := ⟨F38, PySem.W.mg_of X G a38, F38.binds (ps := ["told", "due"]) fun _ _ _ _ _ _ us hl => match us, hl with | [_, _], _ => rfl⟩
  have B_next_ask : KBn K d22 ["many", "answers"] 0 ["answers", "many"] (fun us ws => us ++ ws.reverse) (fun vs zs => vs ++ zs.reverse) := fun_kb F22 (fun _ _ _ _ _ _ us ws h1 h2 => match us, h1, ws, h2 with | [], _, [_, _], _ => rfl) (fun a b => a.append b.reverse)
  have hb : ∀ (s : Shared) (v : Value), BindsTo s d39 ⟨[v], []⟩ [("script", v)] := by
    obtain ⟨oc, od, kV, doc, pm, an, cdv, ct, osl, rfl, lk, hcd⟩ := F39.ex
    exact fun s v => .of_eq rfl
  refine ⟨d39, hb, fun base _ _ => ?_⟩
  have M3 : ∃ t, mg "MOST_NUMBERS" = some (.int 3 t) := ⟨_, PySem.W.mg_of X G vM3⟩
  have VF : FvAt K aF := fun H => .inr ⟨_, _, _, loF, rfl, rfl, by show 4 ≤ sizeLine; decide, .cons rfl (.cons ⟨_, rfl⟩ (.cons ⟨_, rfl⟩ (.cons ⟨_, rfl⟩ .nil)))⟩
  have O_is_integer : FnOk l.prog w K mg base CX0 1 f1 d1 ["value"] (spIsInt K) := ok_isint F1 T  
  have O_is_within : FnOk l.prog w K mg base CX0 2 f2 d2 ["value", "least", "most"] (spWithin K) := ok_within F2 T  D_is_integer O_is_integer
  have O_are_numbers : FnOk l.prog w K mg base CX0 3 f3 d3 ["value"] (spNums K) := ok_nums F3 T  D_is_within O_is_within
  have O_check_many : FnOk l.prog w K mg base CX0 3 f15 d15 ["many"] spCM := ok_cm F15 T M3 D_is_within O_is_within
  have O_choices : FnOk l.prog w K mg base CX0 4 f17 d17 ["many"] spChs := ok_chs F17 T  D_check_many O_check_many
  have O_ladder : FnOk l.prog w K mg base CX0 1 f19 d19 ["number", "most"] spLad := ok_lad F19 T  
  have O_base_of : FnOk l.prog w K mg base CX0 1 f26 d26 ["first"] spBase := ok_base F26 T  
  have O_asked_of : FnOk l.prog w K mg base CX0 2 f25 d25 ["choice", "values"] spAsked := ok_asked F25 T  D_base_of O_base_of D_ladder O_ladder
  have O_next_in : FnOk l.prog w K mg base CX0 5 f24 d24 ["many", "told"] spNext := ok_next F24 T  D_choices O_choices D_asked_of O_asked_of
  have O_refuse_value : FnOk l.prog w K mg base CX0 1 f27 d27 ["choice", "values", "value"] spRefuse := ok_ref F27 T (PySem.W.mg_of X G vF) VF 
  have O_is_answer : FnOk l.prog w K mg base CX0 4 f6 d6 ["many", "value"] (spIsAns K) := ok_isa F6 T  D_are_numbers O_are_numbers D_is_within O_is_within
  have O_are_answers : FnOk l.prog w K mg base CX0 5 f5 d5 ["many", "value"] (spAreAns K) := ok_area F5 T  D_is_answer O_is_answer
  have O_values_told : FnOk l.prog w K mg base CX0 6 f23 d23 ["many", "answers"] (spTold K) := ok_told F23 T  D_check_many O_check_many D_are_answers O_are_answers D_choices O_choices D_next_in O_next_in D_refuse_value O_refuse_value
  have O_next_ask : FnOk l.prog w K mg base CX0 7 f22 d22 ["many", "answers"] (spNextAsk K) := ok_nextask F22 T  D_next_in O_next_in D_values_told O_values_told
  have O__law_sack : FnOk l.prog w K mg base CX0 1 f29 d29 ["script"] (spPen K) := ok_pen F29 T  
  have O__law_take : FnOk l.prog w K mg base CX0 1 f30 d30 ["sack", "many"] spDraw := ok_draw F30 T  
  have O__law_pick : FnOk l.prog w K mg base CX0 2 f31 d31 ["sack", "some"] (spPick K) := ok_pick F31 T  D__law_take O__law_take
  have O__law_power : FnOk l.prog w K mg base CX0 1 f32 d32 ["number", "times"] spPw := ok_pw F32 T  
  have O__law_choices : FnOk l.prog w K mg base CX0 1 f33 d33 ["many"] spLC := ok_lc F33 T  
  have O__law_terms : FnOk l.prog w K mg base CX0 3 f34 d34 ["sack", "choice"] spTm := ok_tm F34 T  D__law_power O__law_power D__law_take O__law_take D__law_pick O__law_pick
  have O__law_worth : FnOk l.prog w K mg base CX0 2 f35 d35 ["terms", "numbers"] spWo := ok_wo F35 T  D__law_power O__law_power
  have O__law_second : FnOk l.prog w K mg base CX0 2 f36 d36 ["choice", "value"] spSe := ok_se F36 T  D__law_power O__law_power
  have O__law_asks : FnOk l.prog w K mg base CX0 3 f37 d37 ["choice", "terms"] spAs := ok_as F37 T  D__law_worth O__law_worth D__law_second O__law_second
  have O__law_is_numbers : FnOk l.prog w K mg base CX0 1 f38 d38 ["told", "due"] spIN := ok_in F38 T  
  exact ok_law F39 T D__law_sack O__law_sack D__law_pick O__law_pick D__law_take O__law_take D__law_choices O__law_choices D__law_terms O__law_terms D__law_asks O__law_asks D__law_worth O__law_worth D__law_power O__law_power D__law_is_numbers O__law_is_numbers D_next_ask O_next_ask B_next_ask
theorem walk {l : PySem.W.OpenLaw} {q : Program} {loose : List Str} {XP : (Str → Option Value) → Heap → Prop} {YP : World → Heap → Prop} {d : DefRec} {K : Params → PySem.W.Frag} (hn : l.most = some 63) (hdf : d.params.defaults = [])
    (hY : ∀ (w : World) (h : Heap), YP w h → (K w.params).In h)
    (F : ∀ (w : World) (mg : Str → Option Value) (fa : Addr) (h : Heap), (K w.params).In h → h.Ns mainGlobals mg → mg d.name = some (.ref fa) →
      ∃ fd : FuncData, (∀ (s : Shared) (u : Value), BindsTo s fd ⟨[u], []⟩ [("script", u)]) ∧ ∀ base : Heap, (K w.params).In base → base.Ns mainGlobals mg → FnOk l.prog w (K w.params) mg base CX0 8 fa fd ["script"] (spLaw (K w.params))) :
    PySem.W.WalkO q loose XP YP l.row.toRowW d [] (fun f vs => PySem.call f vs) :=
  L2.walk_of (n := 63) (k := 8) (x := "script") (CX := fun _ => CX0) (sp := fun w => spLaw (K w.params)) hn (by decide) hdf ⟨rfl, by decide, by decide⟩ hY F (fun (_ : World) _ a ns hl _ hS => ⟨a, ns, rfl, hS, hl, fun _ => rfl⟩) fun _ _ _ _ _ z => z
end TF51
open PySem PySem.W PyProof.Rows
set_option maxRecDepth 100000 in
set_option maxHeartbeats 0 in
theorem PySem.Challenge.cw_timesagain_k51_next_asks_by_own_reckonin_holds : PySem.Challenge.rw_timesagain_k51_next_asks_by_own_reckonin.Holds := by
  w_on; o_law; k_head; (case hw => w_witness2)
  k_fill
  refine TF51.walk (l := PySem.Challenge.rw_timesagain_k51_next_asks_by_own_reckonin) rfl rfl (fun w h Y => PySem.W.kIn_of Y) ?F
  case F =>
    intro w mg fa h KX G hmg
    refine' TF51.all_mk KX G hmg
      ?b_ValueError ?b_abs ?b_all ?b_bool ?b_enumerate ?b_int ?b_isinstance ?b_len ?b_list ?b_range ?b_sorted ?b_sum ?b_tuple ?b_zip ?vM3 ?vF ?loF ?a1 (L2.fun_mk ?l1 ?c1 ?k1) ?a2
      (L2.fun_mk ?l2 ?c2 ?k2) ?a3 (L2.fun_mk ?l3 ?c3 ?k3) ?a15 (L2.fun_mk ?l15 ?c15 ?k15) ?a17 (L2.fun_mk ?l17 ?c17 ?k17) ?a19 (L2.fun_mk ?l19 ?c19 ?k19) ?a26
      (L2.fun_mk ?l26 ?c26 ?k26) ?a25 (L2.fun_mk ?l25 ?c25 ?k25) ?a24 (L2.fun_mk ?l24 ?c24 ?k24) ?a27 (L2.fun_mk ?l27 ?c27 ?k27) ?a6 (L2.fun_mk ?l6 ?c6 ?k6) ?a5
      (L2.fun_mk ?l5 ?c5 ?k5) ?a23 (L2.fun_mk ?l23 ?c23 ?k23) ?a22 (L2.fun_mk ?l22 ?c22 ?k22) ?a29 (L2.fun_mk ?l29 ?c29 ?k29) ?a30 (L2.fun_mk ?l30 ?c30 ?k30) ?a31
      (L2.fun_mk ?l31 ?c31 ?k31) ?a32 (L2.fun_mk ?l32 ?c32 ?k32) ?a33 (L2.fun_mk ?l33 ?c33 ?k33) ?a34 (L2.fun_mk ?l34 ?c34 ?k34) ?a35 (L2.fun_mk ?l35 ?c35 ?k35) ?a36
      (L2.fun_mk ?l36 ?c36 ?k36) ?a37 (L2.fun_mk ?l37 ?c37 ?k37) ?a38 (L2.fun_mk ?l38 ?c38 ?k38) ?a39 (L2.fun_mk ?l39 ?c39 ?k39)
    (case b_ValueError => k_is)
    (case b_abs => k_is)
    (case b_all => k_is)
    (case b_bool => k_is)
    (case b_enumerate => k_is)
    (case b_int => k_is)
    (case b_isinstance => k_is)
    (case b_len => k_is)
    (case b_list => k_is)
    (case b_range => k_is)
    (case b_sorted => k_is)
    (case b_sum => k_is)
    (case b_tuple => k_is)
    (case b_zip => k_is)
    (case vM3 => k_is)
    (case vF => k_is)
    (case loF => k_is)
    (case a1 => k_is)
    (case l1 => k_is)
    (case c1 => k_is)
    (case k1 => k_is)
    (case a2 => k_is)
    (case l2 => k_is)
    (case c2 => k_is)
    (case k2 => k_is)
    (case a3 => k_is)
    (case l3 => k_is)
    (case c3 => k_is)
    (case k3 => k_is)
    (case a15 => k_is)
    (case l15 => k_is)
    (case c15 => k_is)
    (case k15 => k_is)
    (case a17 => k_is)
    (case l17 => k_is)
    (case c17 => k_is)
    (case k17 => k_is)
    (case a19 => k_is)
    (case l19 => k_is)
    (case c19 => k_is)
    (case k19 => k_is)
    (case a26 => k_is)
    (case l26 => k_is)
    (case c26 => k_is)
    (case k26 => k_is)
    (case a25 => k_is)
    (case l25 => k_is)
    (case c25 => k_is)
    (case k25 => k_is)
    (case a24 => k_is)
    (case l24 => k_is)
    (case c24 => k_is)
    (case k24 => k_is)
    (case a27 => k_is)
    (case l27 => k_is)
    (case c27 => k_is)
    (case k27 => k_is)
    (case a6 => k_is)
    (case l6 => k_is)
    (case c6 => k_is)
    (case k6 => k_is)
    (case a5 => k_is)
    (case l5 => k_is)
    (case c5 => k_is)
    (case k5 => k_is)
    (case a23 => k_is)
    (case l23 => k_is)
    (case c23 => k_is)
    (case k23 => k_is)
    (case a22 => k_is)
    (case l22 => k_is)
    (case c22 => k_is)
    (case k22 => k_is)
    (case a29 => k_is)
    (case l29 => k_is)
    (case c29 => k_is)
    (case k29 => k_is)
    (case a30 => k_is)
    (case l30 => k_is)
    (case c30 => k_is)
    (case k30 => k_is)
    (case a31 => k_is)
    (case l31 => k_is)
    (case c31 => k_is)
    (case k31 => k_is)
    (case a32 => k_is)
    (case l32 => k_is)
    (case c32 => k_is)
    (case k32 => k_is)
    (case a33 => k_is)
    (case l33 => k_is)
    (case c33 => k_is)
    (case k33 => k_is)
    (case a34 => k_is)
    (case l34 => k_is)
    (case c34 => k_is)
    (case k34 => k_is)
    (case a35 => k_is)
    (case l35 => k_is)
    (case c35 => k_is)
    (case k35 => k_is)
    (case a36 => k_is)
    (case l36 => k_is)
    (case c36 => k_is)
    (case k36 => k_is)
    (case a37 => k_is)
    (case l37 => k_is)
    (case c37 => k_is)
    (case k37 => k_is)
    (case a38 => k_is)
    (case l38 => k_is)
    (case c38 => k_is)
    (case k38 => k_is)
    (case a39 => k_is)
    (case l39 => k_is)
    (case c39 => k_is)
    (case k39 => k_is)
