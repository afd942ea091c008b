import PyProof.Rows.All
import Wide.All
import OpenK.AllK
import Wide.FinOn
import PyProof.NeKinds
import HandS.ForMost
import HandS.More
import HandS.DeepEq
import HandS.IsInst
import HandS.Style
import HandS.Defaults
import HandS.Codes
import PyProof.ReprRoads
import PyProof.Rows.BootFacts.P3
import PyProof.ReprBulk
import PyProof.P3Eq
import HandS.TupAny
import HandS.Base
import HandS.Call
import HandS.List
import HandS.Dict
import KE.KDictList
import PyProof.TupleOfSeq
import PyProof.TupleOfGen
import HandS.Walk
import HandS.RevRange
import HandS.Wide
import HandS.WideBits
import HandS.Zip
import HandS.TryOnly
import KE.GoesMore
import KE.KTupSum
import KE.GoesEnum
import HandS.ExcInit
import HandS.WordsExc
import HandS.DictComp
import HandS.NoneIn
import HandS.Steps
import KE.KIntText
import HandS.Exc
import HandS.Words
import KE.KIsAll
import KE.KTryMore
import HandS.ExcIs
import HandS.ExcValue
import HandS.ExcOwn
import HandS.Lambda
import KE.KDflt
import HandS.EndTab
import HandS.Records
import HandS.NamedTupGet
import HandS.OwnEq
import KE.DataCmp
import KE.KSortTup
import KE.LtData
import HandS.SortInts
import HandS.NamedTupSort
import HandS.TupSets
import HandS.Keys
import HandS.Conv
import KE.KDictSum
import HandS.SortKw
import HandS.Iter
import HandS.SetKeys
import KE.SortCalls
import HandS.TupMul
import HandS.Text
import PyProof.InstNe
import PyProof.FactsAll.object_2
import PySem.Challenge.RW_timesagain_k52_one_number_told_by_two_as
set_option Elab.async false
set_option linter.all false
set_option maxRecDepth 100000
set_option maxHeartbeats 4000000
namespace TA
open PySem PySem.Spec L2
open PyProof.Rows hiding St
/-- what == says of two items: the same value, or two flat ones -/
inductive EqI : V → V → Bool → Prop where
  | same (x : V) (h : flatB x = true ∨ ∃ a, x = .ref a) : EqI x x true
  | flat {x y : V} (hx : flatV x = true) (hy : flatV y = true) : EqI x y (eqV x y)
inductive EqIs : List V → List V → List Bool → Prop where
  | nil : EqIs [] [] []
  | cons {x y : V} {b : Bool} {xs ys : List V} {bs : List Bool} (h : EqI x y b) (t : EqIs xs ys bs) : EqIs (x :: xs) (y :: ys) (b :: bs)
theorem EqI.at {A : Around} {s : Shared} {x y : V} {b : Bool} {u v : Value} (h : EqI x y b) (rx : RelV x u) (ry : RelV y v) : SeqAt.EqAt A s u v b := by
  cases h with
  | same f =>
    rcases f with f | ⟨a, rfl⟩
    · exact eqAt_same rx ry f
    · cases (show u = Value.ref a from rx)
      cases (show v = Value.ref a from ry)
      exact SeqAt.EqAt.same _
  | flat hx hy => exact eqAt_V rx ry hx hy
theorem EqIs.len {xs ys : List V} {bs : List Bool} (h : EqIs xs ys bs) : xs.length = bs.length ∧ ys.length = bs.length := by
  induction h with
  | nil => exact ⟨rfl, rfl⟩
  | cons _ _ ih => exact ⟨congrArg Nat.succ ih.1, congrArg Nat.succ ih.2⟩
theorem EqIs.at {A : Around} {s : Shared} {xs ys : List V} {bs : List Bool} (h : EqIs xs ys bs) : ∀ {us vs : List Value}, Vals xs us → Vals ys vs → ∀ (j : Nat) (h1 : j < us.length) (h2 : j < vs.length), SeqAt.EqAt A s us[j] vs[j] (bs.getD j true) := by
  induction h with
  | nil =>
    intro us vs r1 r2 j h1 _
    cases r1
    exact absurd h1 (Nat.not_lt_zero j)
  | cons h _ ih =>
    intro us vs r1 r2 j h1 h2
    cases r1 with
    | cons a1 b1 =>
      cases r2 with
      | cons a2 b2 =>
        cases j with
        | zero => exact h.at a1 a2
        | succ j => exact ih b1 b2 j (Nat.lt_of_succ_lt_succ h1) (Nat.lt_of_succ_lt_succ h2)
theorem all_getD : ∀ bs : List Bool, (List.range bs.length).all (fun j => bs.getD j true) = bs.all id
  | [] => rfl
  | b :: r => by
    rw [List.length_cons, List.range_succ_eq_map, List.all_cons, List.all_map, List.all_cons]
    show (b && (List.range r.length).all fun j => r.getD j true) = (b && r.all id)
    rw [all_getD r]
section
variable {X : Cx}
/-- two lists compared, item by item -/
def rCmpL (K : PySem.W.Frag) (neg : Bool) : R2 := fun x y H Q => ∃ a b xs ys, x = .ref a ∧ y = .ref b ∧ SqL K H a xs ∧ SqL K H b ys ∧
  ((xs.length ≠ ys.length ∧ Q (.bl neg) H) ∨ ∃ bs : List Bool, EqIs xs ys bs ∧ Q (.bl (if neg then !bs.all id else bs.all id)) H)
theorem op_eqL (hu : X.A.units < cLine) : OpR X (compareOp .Eq) (rCmpL X.K false) := by
  intro pins s σ H x y v u Q I rx ry h
  obtain ⟨a, b, xs, ys, rfl, rfl, ha, hb, h⟩ := h
  cases (show v = Value.ref a from rx)
  cases (show u = Value.ref b from ry)
  obtain ⟨us, r1, p1, _⟩ := I.list ha
  obtain ⟨ws, r2, p2, _⟩ := I.list hb
  rcases h with ⟨hne, q⟩ | ⟨bs, e, q⟩
  · have hsz : (us.toArray.size != ws.toArray.size) = true := by
      rw [List.size_toArray, List.size_toArray, ← r1.length, ← r2.length]
      simpa using hne
    exact SeqAt.RcAt.lists_lengths p1.isList p2.isList hsz hu _ _ _ _ ⟨.bl _, H, I, rfl, q⟩
  · have hl := e.len
    have hsz : us.toArray.size = ws.toArray.size := by rw [List.size_toArray, List.size_toArray, ← r1.length, ← r2.length, hl.1, hl.2]
    refine SeqAt.RcAt.lists (e := fun j => bs.getD j true) p1.isList p2.isList hsz hu (fun j h1 h2 => ?_) _ _ _ _ ?_
    · have k := e.at (A := X.A.in1) (s := s) r1 r2 j (by simpa using h1) (by simpa using h2)
      simpa using k
    · rw [List.size_toArray, ← r1.length, hl.1, all_getD]
      exact ⟨.bl _, H, I, rfl, q⟩
theorem op_neL (hu : X.A.units < cLine) : OpR X (compareOp .NotEq) (rCmpL X.K true) := by
  intro pins s σ H x y v u Q I rx ry h
  obtain ⟨a, b, xs, ys, rfl, rfl, ha, hb, h⟩ := h
  cases (show v = Value.ref a from rx)
  cases (show u = Value.ref b from ry)
  obtain ⟨us, r1, p1, _⟩ := I.list ha
  obtain ⟨ws, r2, p2, _⟩ := I.list hb
  rcases h with ⟨hne, q⟩ | ⟨bs, e, q⟩
  · have hsz : (us.toArray.size != ws.toArray.size) = true := by
      rw [List.size_toArray, List.size_toArray, ← r1.length, ← r2.length]
      simpa using hne
    exact SeqAt.RcNeAt.lists_lengths p1.isList p2.isList hsz hu _ _ _ _ ⟨.bl _, H, I, rfl, q⟩
  · have hl := e.len
    have hsz : us.toArray.size = ws.toArray.size := by rw [List.size_toArray, List.size_toArray, ← r1.length, ← r2.length, hl.1, hl.2]
    refine SeqAt.RcNeAt.lists (e := fun j => bs.getD j true) p1.isList p2.isList hsz hu (fun j h1 h2 => ?_) _ _ _ _ ?_
    · have k := e.at (A := X.A.in1) (s := s) r1 r2 j (by simpa using h1) (by simpa using h2)
      simpa using k
    · rw [List.size_toArray, ← r1.length, hl.1, all_getD]
      exact ⟨.bl _, H, I, rfl, q⟩
/-- either of two readings -/
theorem op_or {f : Value → Value → Sem Value} {r1 r2 : R2} (h1 : OpR X f r1) (h2 : OpR X f r2) : OpR X f (fun x y H Q => r1 x y H Q ∨ r2 x y H Q) := by
  intro pins s σ H x y v u Q I rx ry h
  rcases h with h | h
  · exact h1 pins s σ H x y v u Q I rx ry h
  · exact h2 pins s σ H x y v u Q I rx ry h
end
end TA
namespace TF52
open PySem PySem.Spec L2 TA
open PyProof.Rows hiding St
def top (i : Nat) : Stmt := PySem.Challenge.pw_timesagain_k52_one_number_told_by_two_as.main.body.getD i (.Pass ⟨0, 0, 0, 0⟩)
/-- a def of the top: where it stands, its name, how it is called -/
structure Df (K : PySem.W.Frag) (mg : Str → Option Value) (x : Str) (st : Stmt) (f : Addr) (fd : FuncData) (ps : List Str) : Prop where
  F : Fun K x x st f fd
  m : mg x = some (.ref f)
  b : Binds K fd ps []
section
variable {X : Cx} {k j : Nat} {f : Addr} {fd : FuncData} {ps : List Str} {sp : Sp} {x : Str} {st : Stmt} {p pos : Pos} {e : Expr} {es : List Expr} {t tk : TA}
theorem pe_cd (D : Df X.K X.mg x st f fd ps) (F : FnOk X.prog X.w X.K X.mg X.base CX0 k f fd ps sp) (hr : Room j X.A) (hj : k ≤ j) (ha : PA X (e :: es) t) (hg : Gl X x := by rfl)
    (hdb : (x == ("__debug__" : Str)) = false := by decide) (he : starEach (e :: es) X.env = (false, eval e X.env) :: starEach es X.env := by rfl) (hpl : (backTo pos (starEach es X.env)).any (·.1) = false := by rfl) :
    PE X (.Call (.Name x p) (e :: es) [] pos) (tCall sp [] E0 t) := pe_call F (hr.mono hj) hg D.m D.F.kp D.b .nil pass0 ha hdb he hpl
/-- // by any number that is no giant -/
theorem op_fdivB : OpR X (binaryOp .FloorDiv) (rI (fun _ j => j ≠ 0 ∧ j.natAbs.log2 < 9000) fun i j => .int (i.fdiv j)) := opI fun _ _ _ _ _ _ _ hc q => floordiv_int hc.1 q (.inl (PyProof.noPylong_of_log2 hc.2))
end
/-- the names of the top that stand for Python's own things -/
structure Bn (mg : Str → Option Value) : Prop where
  b_ValueError : mg "ValueError" = none
  b_abs : mg "abs" = none
  b_all : mg "all" = none
  b_bool : mg "bool" = none
  b_divmod : mg "divmod" = none
  b_enumerate : mg "enumerate" = none
  b_int : mg "int" = none
  b_isinstance : mg "isinstance" = none
  b_len : mg "len" = none
  b_list : mg "list" = none
  b_max : mg "max" = none
  b_min : mg "min" = none
  b_range : mg "range" = none
  b_sorted : mg "sorted" = none
  b_staticmethod : mg "staticmethod" = none
  b_str : mg "str" = none
  b_sum : mg "sum" = none
  b_tuple : mg "tuple" = none
  b_type : mg "type" = none
  b_zip : mg "zip" = none
/-! ### heaps: all but p stays -/
def Keep (p : Addr) (H H' : Hp) : Prop := ∀ b o, b ≠ p → H b = some o → H' b = some o
theorem Keep.refl (p : Addr) (H : Hp) : Keep p H H := fun _ _ _ h => h
theorem Keep.trans {p : Addr} {H H1 H2 : Hp} (a : Keep p H H1) (b : Keep p H1 H2) : Keep p H H2 := fun c o n h => b c o n (a c o n h)
theorem Keep.of_same {p : Addr} {H H' : Hp} (s : Same H H') : Keep p H H' := fun b o _ h => s b o h
theorem Keep.upd_p {p : Addr} {H : Hp} {o : HO} : Keep p H (upd H p o) := fun b u n h => by rw [upd_ne n]; exact h
theorem Keep.new {p q : Addr} {H : Hp} {o : HO} (h : H q = none) : Keep p H (upd H q o) := fun b u _ hb => by rw [upd_ne (ne_of_none hb h)]; exact hb
theorem same_new {H : Hp} {q : Addr} {o : HO} (h : H q = none) : Same H (upd H q o) := fun b u hb => by rw [upd_ne (ne_of_none hb h)]; exact hb
/-- what draws: its cells at c, at most n of them were begun -/
def PenAt (n : Nat) (H : Hp) (p c : Addr) : Prop := ∃ (cells : List Int) (i : Nat) (g : Int), H p = some (.lst [.ref c, .int (i : Int), .int g]) ∧ c ≠ p ∧ H c = some (.lst (cells.map V.int)) ∧ cells.length ≤ 63 ∧ i ≤ n
theorem PenAt.up {n m : Nat} {H : Hp} {p c : Addr} (h : PenAt n H p c) (l : n ≤ m) : PenAt m H p c := by
  obtain ⟨cells, i, g, h1, h2, h3, h4, h5⟩ := h
  exact ⟨cells, i, g, h1, h2, h3, h4, Nat.le_trans h5 l⟩
theorem PenAt.same {n : Nat} {H H' : Hp} {p c : Addr} (h : PenAt n H p c) (s : Same H H') : PenAt n H' p c := by
  obtain ⟨cells, i, g, h1, h2, h3, h4, h5⟩ := h
  exact ⟨cells, i, g, s _ _ h1, h2, s _ _ h3, h4, h5⟩
theorem PenAt.ne {n : Nat} {H : Hp} {p c l : Addr} (h : PenAt n H p c) (hl : H l = none) : l ≠ p := by
  obtain ⟨cells, i, g, h1, _⟩ := h
  exact Ne.symm (ne_of_none h1 hl)
theorem PenAt.ne2 {n : Nat} {H : Hp} {p c l : Addr} (h : PenAt n H p c) (hl : H l = none) : l ≠ c := by
  obtain ⟨cells, i, g, h1, h2, h3, _⟩ := h
  exact Ne.symm (ne_of_none h3 hl)
/-- a store elsewhere -/
theorem PenAt.upd {n : Nat} {H : Hp} {p c l : Addr} {o : HO} (h : PenAt n H p c) (h1 : l ≠ p) (h2 : l ≠ c) : PenAt n (upd H l o) p c := by
  obtain ⟨cells, i, g, e1, e2, e3, e4, e5⟩ := h
  exact ⟨cells, i, g, by rw [upd_ne (Ne.symm h1)]; exact e1, e2, by rw [upd_ne (Ne.symm h2)]; exact e3, e4, e5⟩
theorem PenAt.lst {n : Nat} {H : Hp} {p c : Addr} (h : PenAt n H p c) : ∃ xs, H p = some (.lst xs) := by
  obtain ⟨cells, i, g, h1, _⟩ := h
  exact ⟨_, h1⟩
theorem PenAt.mk {n : Nat} {H : Hp} {p c : Addr} {cells : List Int} {i : Int} {g : Int} (h1 : H p = some (.lst [.ref c, .int i, .int g])) (h2 : c ≠ p) (h3 : H c = some (.lst (cells.map V.int))) (h4 : cells.length ≤ 63) (h0 : 0 ≤ i) (h5 : i ≤ n) : PenAt n H p c :=
  ⟨cells, i.toNat, g, by rw [h1, Int.toNat_of_nonneg h0], h2, h3, h4, by omega⟩
theorem fm_nn {x y : Int} (h : 0 < y) : 0 ≤ x.fmod y := Int.fmod_nonneg_of_pos x h
theorem fm_lt {x y : Int} (h : 0 < y) : x.fmod y < y := Int.fmod_lt_of_pos x h
/-- a number that divides well -/
def Dv (m : Int) : Prop := 0 < m ∧ m.natAbs.log2 < 9000
theorem Dv.of {m : Int} (h0 : 0 < m) (h : m ≤ 1000000000) : Dv m := ⟨h0, by
  have z : m.natAbs < 2 ^ 30 := by omega
  have e := (Nat.log2_lt (n := m.natAbs) (k := 30) (by omega)).mpr z
  omega⟩
theorem mem_at {xs : List V} {r : Int} {n : Int} (h0 : 0 ≤ r) (h1 : r < n) (hn : n = (xs.length : Int)) : ∃ v, v ∈ xs ∧ atI xs r = some v := by
  have hj : r.toNat < xs.length := by omega
  exact ⟨xs[r.toNat], List.getElem_mem hj, at_of (j := r.toNat) (by omega) (List.getElem?_eq_getElem hj)⟩
theorem take_snoc {α : Type} {xs : List α} {i : Nat} {x : α} (h : xs[i]? = some x) : xs.take (i + 1) = xs.take i ++ [x] := by
  rw [List.take_add_one, h]
  rfl
/-! ### what draws -/
abbrev sPen : Stmt := top 79
abbrev sDraw : Stmt := top 80
theorem scPen : FnScope ["script", "cell"] ["script"] (defScope sPen) := ⟨rfl, rfl, rfl, by decide +kernel, rfl, by decide +kernel, by decide +kernel⟩
theorem scDraw : FnScope ["tub", "many", "rest", "turn", "cell", "mixed"] ["tub", "many"] (defScope sDraw) := ⟨rfl, rfl, rfl, by decide +kernel, rfl, by decide +kernel, by decide +kernel⟩
def spPen (K : PySem.W.Frag) : Sp := fun vs H Q _ => ∃ (a : Addr) (ns : List Int), vs = [.ref a] ∧ SqL K H a (ns.map V.int) ∧ ns.length ≤ 63 ∧
  ∀ (p c : Addr) (H' : Hp), H p = none → Same H H' → PenAt 0 H' p c → Q (.ref p) H'
def spDraw : Sp := fun vs H Q _ => ∃ (p c : Addr) (many : Int) (n : Nat), vs = [.ref p, .int many] ∧ PenAt n H p c ∧ n ≤ 100000 ∧ Dv many ∧
  ∀ (r : Int) (H' : Hp), 0 ≤ r → r < many → Keep p H H' → PenAt (n + 1) H' p c → Q (.int r) H'
section
variable {P : Program} {w : World} {K : PySem.W.Frag} {mg : Str → Option Value} {base : Heap} {f f1 : Addr} {fd fd1 : FuncData}
theorem ok_pen (F : Fun K "_law_tub" "_law_tub" sPen f fd) (T : Bn mg) : FnOk P w K mg base CX0 1 f fd ["script"] (spPen K) := by
  refine F.ok scPen (fun vs H Q E h => ?_) (fun cdv A outer s H vs Q E hr h => ?_)
  · obtain ⟨a, ns, rfl, _⟩ := h
    rfl
  obtain ⟨a, ns, rfl, hS, hl, q⟩ := h
  refine ⟨_, (pss_one (ps_ret (pe_lst (pa_cons (pe_lc (own := [("cell", 1)]) (g := (gName 1)) (by rfl) scPen.nd (pi_list (pe_slice sl_list (pv 0) po_none (po_some pe_int))) (blkOk_by (own := [("cell", 1)]) (N := ["script", "cell"]) (sc := defScope sPen) (by decide +kernel)) (fun _ _ _ _ _ => (pg_name (i := 1) scPen.nd rfl (.inl rfl))) (fun _ _ _ _ _ => pts_nil) (fun _ _ _ _ _ => (pe_callTy call_int1 (by rfl) T.b_int (by decide +kernel) (pa_cons (pv 1) pa_nil)))) (pa_cons pe_int (pa_cons pe_int pa_nil)))))), ?_⟩
  refine ⟨_, rfl, _, rfl, a, _, rfl, hS, fun b hb => ?_⟩
  have cut : cutV (ns.map V.int) none (some 62) = (ns.take 62).map V.int := by
    unfold cutV
    rw [HT.sIx_none, List.drop_zero, show (some (62 : Int)) = some ((62 : Nat) : Int) from rfl, HT.sIx_nat, List.length_map, Nat.sub_zero, ← List.map_take]
    congr 1
    by_cases h : 62 ≤ ns.length
    · rw [Nat.min_eq_left h]
    · rw [Nat.min_eq_right (by omega), List.take_of_length_le (Nat.le_refl _), List.take_of_length_le (by omega)]
  refine ⟨b, rfl, ⟨_, SqL.of upd_same⟩, fun D hD => ?_⟩
  have sB : Same H (L2.upd H b (.lst (cutV (ns.map V.int) none (some 62)))) := same_new hb
  have dH : H D = none := sB.free hD
  have nDb : b ≠ D := ne_of_none upd_same hD
  refine lc_list (K := K) (a := b) (xs := cutV (ns.map V.int) none (some 62)) (fun i H2 => Same H H2 ∧ H2 b = some (.lst (cutV (ns.map V.int) none (some 62))) ∧ H2 D = some (.lst (((ns.take 62).map V.int).take i))) ?_ ?_ ?_ ?_
  · exact ⟨sB.trans (same_new hD), by rw [upd_ne nDb, upd_same], by rw [upd_same, List.take_zero]⟩
  · rintro i H2 _ ⟨_, h2, _⟩
    exact SqL.of h2
  · rintro i x H2 hx ⟨s2, h2, h3⟩
    rw [cut, List.getElem?_map] at hx
    obtain ⟨z, hz, rfl⟩ := Option.map_eq_some_iff.mp hx
    refine ⟨rfl, _, rfl, .inl ⟨_, rfl, _, h3, ?_, ?_⟩⟩
    · rw [List.length_take, List.length_map, List.length_take]
      exact small1000 (by omega)
    · refine ⟨fun y o hy => ?_, by rw [upd_ne nDb]; exact h2, ?_⟩
      · rw [upd_ne (ne_of_none hy dH)]
        exact s2 y o hy
      · rw [upd_same, take_snoc (x := V.int z) (by rw [List.getElem?_map, hz]; rfl)]
  rintro H2 ⟨s2, h2, h3⟩
  refine ⟨(by show 3 ≤ sizeLine; decide), fun p hp => ?_⟩
  have pH : H p = none := s2.free hp
  refine q p D _ pH (s2.trans (same_new hp)) ?_
  have nDp : D ≠ p := ne_of_none h3 hp
  refine PenAt.mk (c := D) (cells := ns.take 62) (i := 0) upd_same nDp ?_ (by rw [List.length_take]; omega) (by decide) (by decide)
  rw [upd_ne nDp, h3, List.take_of_length_le]
  rw [cut]
  exact Nat.le_refl _
theorem ok_draw (F : Fun K "_law_dip" "_law_dip" sDraw f fd) (T : Bn mg) : FnOk P w K mg base CX0 1 f fd ["tub", "many"] spDraw := by
  refine F.ok scDraw (fun vs H Q E h => ?_) (fun cdv A outer s H vs Q E hr h => ?_)
  · obtain ⟨p, c, many, n, rfl, _⟩ := h
    rfl
  obtain ⟨p, c, many, n, rfl, ⟨cells, i, g, hp, hcp, hc, hl, hi⟩, hn, ⟨m0, m1⟩, q⟩ := h
  have mne : many ≠ 0 := by omega
  have mdiv : many ≠ 0 ∧ many.natAbs.log2 < 9000 := ⟨mne, m1⟩
  refine ⟨_, (pss_cons (ps_if (pt_cmpR op_gt (pe_ix ix_list (pv 0) pe_int (fun _ _ => rfl)) pe_int (nomark _)) (pss_cons (ps_set (i := 2) scDraw.nd rfl (.inl rfl) (pe_ix ix_list (pv 0) pe_int (fun _ _ => rfl)))
        (pss_cons (ps_asg (pe_op op_fdivB (pe_callTy call_int1 (by rfl) T.b_int (by decide +kernel) (pa_cons (pv 2) pa_nil)) (pv 1)) (pg_sub (pv 0) pe_int set_list))
        (pss_one (ps_ret (pe_op op_modN (pe_callTy call_int1 (by rfl) T.b_int (by decide +kernel) (pa_cons (pv 2) pa_nil)) (pv 1)))))) pss_nil)
      (pss_cons (ps_set (i := 3) scDraw.nd rfl (.inl rfl) (pe_ix ix_list (pv 0) pe_int (fun _ _ => rfl)))
      (pss_cons (ps_asg (pe_op op_add (pv 3) pe_int) (pg_sub (pv 0) pe_int set_list))
      (pss_cons (ps_set (i := 4) scDraw.nd rfl (.inl rfl) (pe_op op_add (pe_op op_mul pe_int (pv 3)) pe_int))
      (C8.pss_cut (ps_if (pt_cmpR (op_neL hr.units0) (pe_ix ix_list (pv 0) pe_int (fun _ _ => rfl)) (pe_lst pa_nil) (nomark _)) (pss_one (ps_set (i := 4) scDraw.nd rfl (.inl rfl) (pe_ix ix_list (pe_ix ix_list (pv 0) pe_int (fun _ _ => rfl)) (pe_op op_modN (pe_callTy call_int1 (by rfl) T.b_int (by decide +kernel) (pa_cons (pv 3) pa_nil)) (pe_callB call_len_seq (by rfl) T.b_len (by decide +kernel) (pa_cons (pe_ix ix_list (pv 0) pe_int (fun _ _ => rfl)) pa_nil))) (fun _ _ => rfl)))) pss_nil)
      (C8.pss_cut (ps_if (PW.pt (pw_and (pt_cmpR op_lt (pv 3) (pe_callB call_len_seq (by rfl) T.b_len (by decide +kernel) (pa_cons (pe_ix ix_list (pv 0) pe_int (fun _ _ => rfl)) pa_nil)) (nomark _)) (pw_and1 (pt_cmpR op_ge (pe_callB call_abs (by rfl) T.b_abs (by decide +kernel) (pa_cons (pv 4) pa_nil)) (pe_op op_pow pe_int pe_int) (nomark _))))) (pss_cons (ps_set (i := 2) scDraw.nd rfl (.inl rfl) (pe_op op_add (pe_op op_mul pe_int (pe_op op_sub (pe_callB call_abs (by rfl) T.b_abs (by decide +kernel) (pa_cons (pv 4) pa_nil)) (pe_op op_pow pe_int pe_int))) (pe_callTy call_int1 (by rfl) T.b_int (by decide +kernel) (pa_cons (pe_cmpR op_lt (pv 4) pe_int (nomark _)) pa_nil))))
        (pss_cons (ps_asg (pe_op op_fdivB (pe_callTy call_int1 (by rfl) T.b_int (by decide +kernel) (pa_cons (pv 2) pa_nil)) (pv 1)) (pg_sub (pv 0) pe_int set_list))
        (pss_one (ps_ret (pe_op op_modN (pe_callTy call_int1 (by rfl) T.b_int (by decide +kernel) (pa_cons (pv 2) pa_nil)) (pv 1)))))) pss_nil)
      (pss_cons (ps_set (i := 5) scDraw.nd rfl (.inl rfl) (pe_op op_modN (pe_callTy call_int1 (by rfl) T.b_int (by decide +kernel) (pa_cons (pe_op op_pow (pe_op op_add (pe_op op_add (pe_op op_modN (pe_callTy call_int1 (by rfl) T.b_int (by decide +kernel) (pa_cons (pv 4) pa_nil)) pe_int) (pe_op op_mul pe_int (pv 3))) pe_int) pe_int) pa_nil)) pe_int))
      (pss_cons (ps_set (i := 5) scDraw.nd rfl (.inl rfl) (pe_op op_modN (pe_callTy call_int1 (by rfl) T.b_int (by decide +kernel) (pa_cons (pe_op op_pow (pe_op op_add (pe_op op_add (pe_op op_mul (pv 5) (pe_op op_add (pe_op op_mul pe_int (pv 3)) pe_int)) (pe_op op_mul (pe_op op_mul pe_int (pv 3)) (pv 3))) pe_int) pe_int) pa_nil)) pe_int))
      (pss_one (ps_ret (pe_op op_modN (pe_callTy call_int1 (by rfl) T.b_int (by decide +kernel) (pa_cons (pe_op op_fdivB (pv 5) pe_int) pa_nil)) (pv 1)))))))))))), ?_⟩
  refine ⟨_, rfl, p, _, _, _, rfl, rfl, SqL.of hp, rfl, _, _, rfl, rfl, _, rfl, ?_⟩
  refine ite2 (fun c0 => ?_) (fun c0 => ?_)
  · refine ⟨_, rfl, p, _, _, _, rfl, rfl, SqL.of hp, rfl, ?_⟩
    refine ⟨_, rfl, .inl ⟨_, rfl, _, rfl, _, _, rfl, rfl, mdiv, ?_⟩⟩
    refine ⟨_, rfl, p, _, _, _, rfl, rfl, hp, rfl, ?_⟩
    refine ⟨_, rfl, .inl ⟨_, rfl, _, rfl, _, _, rfl, rfl, mne, ?_⟩⟩
    refine q _ _ (fm_nn m0) (fm_lt m0) Keep.upd_p ?_
    exact PenAt.mk (c := c) (cells := cells) (i := i) upd_same hcp (by rw [upd_ne hcp]; exact hc) hl (by omega) (by omega)
  refine ⟨_, rfl, p, _, _, _, rfl, rfl, SqL.of hp, rfl, ?_⟩
  refine ⟨_, rfl, _, _, rfl, rfl, _, rfl, p, _, _, _, rfl, rfl, hp, rfl, ?_⟩
  have hp1 : ∀ o, L2.upd H p o p = some o := fun o => upd_same
  refine ⟨_, rfl, _, _, rfl, rfl, .inl ⟨by decide, by decide⟩, _, _, rfl, rfl, ?_⟩
  refine ⟨fun σ H2 => ∃ (cell : Int) (v0 v1 : Option V), σ = [some (.ref p), some (.int many), v0, some (.int (i : Int)), some (.int cell), v1] ∧ Keep p H H2 ∧ H2 p = some (.lst [.ref c, .int ((i : Int) + 1), .int g]), ?_, ?_⟩
  · refine ⟨_, rfl, p, _, _, _, rfl, rfl, SqL.of (hp1 _), rfl, Nat.zero_le _, fun l hl0 => ?_⟩
    have nlp : p ≠ l := ne_of_none (hp1 _) hl0
    have hlH : H l = none := by
      rw [← hl0, upd_ne (Ne.symm nlp)]
    have ncl : c ≠ l := ne_of_none hc hlH
    have hc2 : ∀ o, (L2.upd (L2.upd H p o) l (.lst [])) c = some (.lst (cells.map V.int)) := fun o => by rw [upd_ne ncl, upd_ne hcp]; exact hc
    have hp2 : ∀ o, (L2.upd (L2.upd H p o) l (.lst [])) p = some o := fun o => by rw [upd_ne nlp, upd_same]
    have kp2 : ∀ o, Keep p H (L2.upd (L2.upd H p o) l (.lst [])) := fun o => fun b u nb hb => by rw [upd_ne (ne_of_none hb hlH), upd_ne nb]; exact hb
    refine ⟨c, l, _, _, rfl, rfl, SqL.of (hc2 _), SqL.of upd_same, ?_⟩
    by_cases e : cells = []
    · subst e
      refine .inr ⟨[], .nil, _, rfl, iteF ?_⟩
      exact ⟨_, _, _, rfl, kp2 _, hp2 _⟩
    · have el : cells.length ≠ 0 := fun z => e (List.length_eq_zero_iff.mp z)
      refine .inl ⟨by rw [List.length_map]; exact el, _, rfl, iteT ?_⟩
      refine ⟨_, rfl, p, _, _, _, rfl, rfl, SqL.of (hp2 _), rfl, _, rfl, .inl ⟨_, rfl, _, rfl, p, _, _, _, rfl, rfl, SqL.of (hp2 _), rfl, c, _, rfl, .inl (SqL.of (hc2 _)), ?_⟩⟩
      have lpos : (0 : Int) < ((cells.map V.int).length : Int) := by rw [List.length_map]; omega
      have a1 := fm_nn (x := (i : Int)) lpos
      have a2 := fm_lt (x := (i : Int)) lpos
      refine ⟨_, _, rfl, rfl, by omega, c, _, _, .int (cells.getD ((i : Int).fmod ((cells.map V.int).length : Int)).toNat 0), rfl, rfl, SqL.of (hc2 _), ?_, ?_⟩
      · rw [List.length_map] at a2 ⊢
        refine at_of (j := ((i : Int).fmod (cells.length : Int)).toNat) ?_ ?_
        · rw [Int.toNat_of_nonneg (by rw [List.length_map] at a1; exact a1)]
        · have hj : ((i : Int).fmod (cells.length : Int)).toNat < cells.length := by rw [List.length_map] at a1; omega
          rw [List.getElem?_map, List.getElem?_eq_getElem hj, List.getD_eq_getElem?_getD, List.getElem?_eq_getElem hj]
          rfl
      · exact ⟨_, _, _, rfl, kp2 _, hp2 _⟩
  rintro σ2 H2 ⟨cell, v0, v1, rfl, k2, hp2⟩
  have hc2 := k2 c _ hcp hc
  refine ⟨fun σ H' => H' = H2 ∧ ∃ (v0 v1 : Option V), σ = [some (.ref p), some (.int many), v0, some (.int (i : Int)), some (.int cell), v1], ?_, ?_⟩
  · refine ⟨_, rfl, _, rfl, p, _, _, _, rfl, rfl, SqL.of hp2, rfl, c, _, rfl, .inl (SqL.of hc2), _, _, rfl, rfl, _, rfl, ?_⟩
    refine ite2 (fun c1 => ?_) (fun c1 => iteF ⟨rfl, _, _, rfl⟩)
    refine ⟨_, rfl, _, rfl, _, _, rfl, rfl, ⟨by decide, by decide, by decide⟩, _, _, rfl, rfl, _, rfl, ?_⟩
    refine ite2 (fun c2 => ?_) (fun c2 => ⟨rfl, _, _, rfl⟩)
    refine ⟨_, rfl, _, rfl, _, _, rfl, rfl, ⟨by decide, by decide, by decide⟩, _, _, rfl, rfl, _, _, rfl, rfl, .inl ⟨by decide, by decide⟩, _, rfl, _, _, rfl, rfl, .inr ⟨_, rfl, _, _, rfl, rfl, ?_⟩⟩
    refine ⟨_, rfl, .inl ⟨_, rfl, _, rfl, _, _, rfl, rfl, mdiv, ?_⟩⟩
    refine ⟨_, rfl, p, _, _, _, rfl, rfl, hp2, rfl, ?_⟩
    refine ⟨_, rfl, .inl ⟨_, rfl, _, rfl, _, _, rfl, rfl, mne, ?_⟩⟩
    refine q _ _ (fm_nn m0) (fm_lt m0) (k2.trans Keep.upd_p) ?_
    exact PenAt.mk (c := c) (cells := cells) (i := (i : Int) + 1) upd_same hcp (by rw [upd_ne hcp]; exact hc2) hl (by omega) (by omega)
  rintro σ3 H3 ⟨rfl, w0, w1, rfl⟩
  have b1 := fm_nn (x := cell) (y := 2147483543) (by decide)
  have b2 := fm_lt (x := cell) (y := 2147483543) (by decide)
  refine ⟨_, rfl, .inl ⟨_, rfl, _, _, rfl, rfl, (by show (_ : Int) ≠ 0; decide), _, rfl, _, _, rfl, rfl, .inl ⟨by decide, by decide⟩, _, _, rfl, rfl, _, _, rfl, rfl, _, _, rfl, rfl, ⟨by decide, by decide, by omega⟩, .inl ⟨_, rfl, _, _, rfl, rfl, (by show (_ : Int) ≠ 0; decide), ?_⟩⟩⟩
  generalize hM : (Int.fmod ((cell.fmod 2147483543 + 73013 * (i : Int) + 3191) ^ (5 : Int).toNat) 2147483549) = M
  have d1 : 0 ≤ M := by rw [← hM]; exact fm_nn (by decide)
  have d2 : M < 2147483549 := by rw [← hM]; exact fm_lt (by decide)
  refine ⟨_, rfl, _, rfl, _, _, rfl, rfl, .inl ⟨by decide, by decide⟩, _, _, rfl, rfl, _, _, rfl, rfl, .inl ⟨by omega, by omega⟩, _, rfl, _, _, rfl, rfl, .inl ⟨by decide, by decide⟩, _, rfl, _, _, rfl, rfl, .inl ⟨by omega, by omega⟩, _, _, rfl, rfl, _, _, rfl, rfl, _, _, rfl, rfl, ⟨by decide, by decide, ?_⟩, .inl ⟨_, rfl, _, _, rfl, rfl, (by show (_ : Int) ≠ 0; decide), ?_⟩⟩
  · have e1 : M * (2 * (i : Int) + 2659) ≤ 2147483549 * 300000 := Int.mul_le_mul (by omega) (by omega) (by omega) (by omega)
    have e2 : 0 ≤ M * (2 * (i : Int) + 2659) := Int.mul_nonneg d1 (by omega)
    have e3 : 61043 * (i : Int) * (i : Int) ≤ 10000000000 * 100000 := Int.mul_le_mul (by omega) (by omega) (by omega) (by omega)
    have e4 : 0 ≤ 61043 * (i : Int) * (i : Int) := Int.mul_nonneg (by omega) (by omega)
    rw [hM]
    omega
  refine ⟨_, rfl, _, _, rfl, rfl, ⟨(by show (_ : Int) ≠ 0; decide), (by show Nat.log2 _ < 9000; decide)⟩, .inl ⟨_, rfl, _, rfl, _, _, rfl, rfl, mne, ?_⟩⟩
  refine q _ _ (fm_nn m0) (fm_lt m0) k2 ?_
  exact PenAt.mk (c := c) (cells := cells) (i := (i : Int) + 1) hp2 hcp hc2 hl (by omega) (by omega)
abbrev sPick : Stmt := top 81
theorem scPick : FnScope ["tub", "some"] ["tub", "some"] (defScope sPick) := ⟨rfl, rfl, rfl, by decide +kernel, rfl, by decide +kernel, by decide +kernel⟩
def spPick (K : PySem.W.Frag) : Sp := fun vs H Q _ => ∃ (p c a : Addr) (xs : List V) (n : Nat), vs = [.ref p, .ref a] ∧ PenAt n H p c ∧ n ≤ 100000 ∧ a ≠ p ∧ H a = some (.lst xs) ∧ xs ≠ [] ∧ xs.length ≤ 1000000 ∧
  ∀ (v : V) (H' : Hp), v ∈ xs → Keep p H H' → PenAt (n + 1) H' p c → Q v H'
theorem ok_pick (F : Fun K "_law_pick" "_law_pick" sPick f fd) (T : Bn mg) (D__law_dip : Df K mg "_law_dip" sDraw f1 fd1 ["tub", "many"]) (G__law_dip : FnOk P w K mg base CX0 1 f1 fd1 ["tub", "many"] spDraw) : FnOk P w K mg base CX0 2 f fd ["tub", "some"] (spPick K) := by
  refine F.ok scPick (fun vs H Q E h => ?_) (fun cdv A outer s H vs Q E hr h => ?_)
  · obtain ⟨p, c, a, xs, n, rfl, _⟩ := h
    rfl
  obtain ⟨p, c, a, xs, n, rfl, hp, hn, na, ha, hne, hl, q⟩ := h
  refine ⟨_, (pss_one (ps_ret (pe_ix ix_list (pv 1) (pe_cd D__law_dip G__law_dip hr (by decide) (pa_cons (pv 0) (pa_cons (pe_callB call_len_seq (by rfl) T.b_len (by decide +kernel) (pa_cons (pv 1) pa_nil)) pa_nil))) (fun _ _ => rfl)))), ?_⟩
  have lp : xs.length ≠ 0 := fun z => hne (List.length_eq_zero_iff.mp z)
  refine ⟨_, rfl, _, rfl, _, rfl, a, _, rfl, .inl (SqL.of ha), p, c, _, n, rfl, hp, hn, Dv.of (by omega) (by omega), fun r H' r0 r1 k hp' => ?_⟩
  obtain ⟨v, hv, hat⟩ := mem_at (xs := xs) r0 r1 rfl
  exact ⟨a, _, _, _, rfl, rfl, SqL.of (k _ _ na ha), hat, q v H' hv k hp'⟩
end
end TF52
/-! repr of data at any depth: a call's room that also tells that no repr is under way -/
namespace TG
open PySem PySem.Spec L2
open PyProof.Rows hiding St
/-- room for k more calls, and no repr under way -/
structure RoomG (k : Nat) (A : Around) : Prop where
  hd : A.handled = none
  dp : A.depth + k + 5 < recursionLimit
  un : A.units + 6 * k + 200 < cLine
  gd : A.guards = some []
theorem RoomG.mono {j k : Nat} {A : Around} (h : RoomG k A) (hj : j ≤ k) : RoomG j A := ⟨h.hd, by have := h.dp; omega, by have := h.un; omega, h.gd⟩
theorem RoomG.down {k : Nat} {A : Around} (h : RoomG (k + 1) A) (env : Env) : RoomG k (A.deeper env) :=
  ⟨h.hd, by have := h.dp; show A.depth + 1 + k + 5 < _; omega, by have := h.un; show A.units + 3 + 6 * k + 200 < _; omega, h.gd⟩
theorem RoomG.room {k : Nat} {A : Around} (h : RoomG (3 * k) A) : Room k A := ⟨h.hd, by have := h.dp; omega, by have := h.un; omega⟩
theorem RoomG.depth {k : Nat} {A : Around} (h : RoomG k A) : A.depth < recursionLimit := by have := h.dp; omega
theorem RoomG.units {k : Nat} {A : Around} (h : RoomG k A) : A.units + 64 < cLine := by have := h.un; omega
theorem RoomG.units0 {k : Nat} {A : Around} (h : RoomG k A) : A.units < cLine := by have := h.un; omega
theorem RoomG.units2 {k : Nat} {A : Around} (h : RoomG k A) : A.units + 151 < cLine := by have := h.un; omega
theorem RoomG.hu {k : Nat} {A : Around} (h : RoomG k A) : A.units + 1 < cLine := by have := h.un; omega
/-- a def's promise, asked where no repr is under way -/
structure FnG (P : Program) (w : World) (K : PySem.W.Frag) (mg : Str → Option Value) (base : Heap) (CX : CXT) (k : Nat) (f : Addr) (fd : FuncData) (ps : List Str) (sp : Sp) : Prop where
  len : ∀ vs H Q E, sp vs H Q E → vs.length = ps.length
  go : ∀ (A : Around) (outer : List Env) (s : Shared) (H : Hp) (args : Args) (us : List Value) (vs : List V) (Q : VK) (E : XK), RoomG k A → Env0 P w K mg base A outer s H → BindsTo s fd args (ps.zip us) → Vals vs us → sp vs H Q E →
    codeAny (model P w) A (.call (.ref f) args) (CR CX outer P w H s Q E) s
section
variable {P : Program} {w : World} {K : PySem.W.Frag} {mg : Str → Option Value} {base : Heap} {CX : CXT} {j k : Nat} {f : Addr} {fd : FuncData} {ps : List Str} {sp : Sp}
theorem fnG_of (F : FnOk P w K mg base CX k f fd ps sp) : FnG P w K mg base CX (3 * k) f fd ps sp := ⟨F.len, fun A outer s H args us vs Q E hr => F.run A outer s H args us vs Q E hr.room⟩
theorem FnG.mono (F : FnG P w K mg base CX j f fd ps sp) (h : j ≤ k) : FnG P w K mg base CX k f fd ps sp := ⟨F.len, fun A outer s H args us vs Q E hr => F.go A outer s H args us vs Q E (hr.mono h)⟩
end
section
variable {P : Program} {w : World} {K : PySem.W.Frag} {mg : Str → Option Value} {base : Heap}
/-- the rule for a def, as Fun.ok, with the room told so -/
theorem fun_okG {x qual : Str} {st : Stmt} {f : Addr} {fd : FuncData} {N ps : List Str} {k : Nat} {sp : Sp} (F : Fun K x qual st f fd) (S : FnScope N ps (defScope st)) (len : ∀ vs H Q E, sp vs H Q E → vs.length = ps.length)
    (hbody : ∀ (cdv : Value) (A : Around) (outer : List Env) (s : Shared) (H : Hp) (vs : List V) (Q : VK) (E : XK), RoomG k (A.deeper (envOfC qual (defScope st) s.heap.objs.size f cdv)) → sp vs H Q E →
      ∃ t, PSs (cxOf CX0 P w K mg base N qual (defScope st) f cdv A outer s H E).nox (defBody st) t ∧ t { nx := fun _ H' => Q .non H', rt := Q } (start N vs) H) : FnG P w K mg base CX0 (k + 1) f fd ps sp := by
  obtain ⟨oc, od, kV, doc, pm, an, cdv, ct, osl, rfl, lk, hcd⟩ := F.ex
  refine ⟨len, fun A outer s H args us vs Q E hr e0 hb r hsp => ?_⟩
  have hl := len _ _ _ _ hsp
  have kin : K.In s.heap := e0.mod.kin.keeps fun b o e => (e0.bs b o e).1
  have hlim : s.heap.NoLimit := e0.mod.nolimit.keeps fun b o e => (e0.bs b o e).1
  have kinds : ∀ y ∈ ps.zip us, (defScope st).names.lookup y.1 = some .local ∨ ((defScope st).names.lookup y.1 = some .cell ∧ ((cellsFrom (s.heap.objs.size + 1) (defScope st).names []).lookup y.1).isSome = true) := by
    rintro ⟨n, v⟩ hy
    exact (S.par n (List.of_mem_zip hy).1).elim .inl fun z => .inr ⟨z, PySem.W.cellsFrom_some _ _ _ (.inl z)⟩
  refine codeAny_call_function hr.depth (kin _ _ lk) rfl S.co S.gen rfl (PySem.W.codeRec_of kin hcd) (hb _ _ _ _ ?_)
  refine wpAny_newFunctionEnv_cells S.kind kinds fun env he s1 z => ?_
  subst he
  refine ⟨hlim.keeps z.toInCall.keep, codeAny_func ?_⟩
  obtain ⟨t, ht, hq⟩ := hbody cdv A outer s H vs Q E (hr.down _) hsp
  have I : Inv (cxOf CX0 P w K mg base N qual (defScope st) f cdv A outer s H E) [] (start N vs) H s1 := inv_start S hr.hd e0 hl r z
  refine wpAny_mono (ht.nox.run [] s1 (start N vs) H _ I hq) (fun fl s' hs => ?_) fun e s' hs => hs
  have done : ∀ {τ : L2.St} {G : Hp} {v : V} {u : Value}, Inv (cxOf CX0 P w K mg base N qual (defScope st) f cdv A outer s H E) [] τ G s' → RelV v u → Q v G → CE outer P w H s Q u s' :=
    fun {τ G v u} J rv q => ⟨v, G, J.os, J.bare, J.base, J.hok, rv, q⟩
  match fl, hs with
  | .ret u, hs =>
    obtain ⟨v, τ, G, J, rv, q⟩ := hs
    exact done J rv q
  | .next, hs =>
    obtain ⟨τ, G, J, q⟩ := hs
    exact done (v := V.non) (u := Value.none) J rfl q
  | .brk, ⟨_, _, _, q⟩ => exact q.elim
  | .cont, ⟨_, _, _, q⟩ => exact q.elim
end
section
variable {X : Cx} {CX : CXT} {j k : Nat} {f : Addr} {fd : FuncData} {ps ks : List Str} {sp : Sp} {dvs : List V} {ds : List Value} {E : XK} {x : Str} {p pos : Pos} {e : Expr} {es : List Expr} {kws : List Keyword} {t tk : TA} {n : Nat}
  {g : List Value → List Value → List Value} {gV : List V → List V → List V}
theorem run_fnG {pins : List (Addr × Obj)} {σ : L2.St} {H : Hp} {s : Shared} {Q : VK} {us ws : List Value} {vs zs : List V} (F : FnG X.prog X.w X.K X.mg X.base CX k f fd ps sp) (hr : RoomG k X.A) (hb : KBn X.K fd ps n ks g gV) (hx : Passes CX X E)
    (I : Inv X pins σ H s) (r : Vals vs us) (rz : Vals zs ws) (hn : us.length = n) (hk : ws.length = ks.length) (h : sp (gV vs zs) H Q E) : wpAny (model X.prog X.w) X.A (call (.ref f) us (ks.zip ws)) (EP X pins σ Q) X.xe s := by
  refine wpAny_call (codeAny_mono (F.go X.A X.stack s H ⟨us, ks.zip ws⟩ (g us ws) (gV vs zs) Q E hr I.env0 (hb.to s us ws I.kIn hn hk) (hb.rel r rz) h) fun res s' hq => ?_)
  match res, hq with
  | .error e, hq => exact hx pins σ H s e s' I hq
  | .ok (.ret u), hq => exact I.after hq
  | .ok .next, hq => exact hq.elim
  | .ok .brk, hq => exact hq.elim
  | .ok .cont, hq => exact hq.elim
theorem binds_kb (hb : Binds X.K fd ps []) : KBn X.K fd ps ps.length [] (fun us _ => us) (fun vs _ => vs) :=
  ⟨fun s us ws hK h1 h2 => by
    have z := hb s us hK (by rw [List.append_nil]; exact h1)
    rw [List.append_nil] at z
    exact z, fun a _ => a⟩
/-- f(e, ..), every argument by its place -/
theorem pe_cdG (F : FnG X.prog X.w X.K X.mg X.base CX k f fd ps sp) (hr : RoomG j X.A) (hj : k ≤ j) (hm : X.mg x = some (.ref f)) (hk : PySem.W.keepIn X.K (.ref f) = true) (hb : Binds X.K fd ps []) (hx : Passes CX X E) (ha : PA X (e :: es) t) (hg : Gl X x := by rfl)
    (hdb : (x == ("__debug__" : Str)) = false := by decide) (he : starEach (e :: es) X.env = (false, eval e X.env) :: starEach es X.env := by rfl) (hpl : (backTo pos (starEach es X.env)).any (·.1) = false := by rfl) :
    PE X (.Call (.Name x p) (e :: es) [] pos) (tCall sp [] E t) := by
  refine ⟨fun pins s σ H Q I h => ?_⟩
  refine wpAny_Call_Name_kw (ld_glob I hg hm ?_ hdb)
  refine PySem.W.callWith_K (h₀ := X.base) I.ok.mod.kin hk (thn (ha.run pos pins s σ H _ I h) fun us s1 ⟨vs, H1, I1, r, q⟩ => ⟨I1.kIn, ?_⟩) he hpl
  have q2 : sp vs H1 Q E := by
    have z : sp (vs ++ []) H1 Q E := q
    rwa [List.append_nil] at z
  have hl : us.length = ps.length := by rw [← r.length]; exact F.len _ _ _ _ q2
  exact run_fnG (us := us) (vs := vs) (ks := []) (ws := []) (zs := []) F (hr.mono hj) (binds_kb hb) hx I1 r .nil hl rfl q2
end
section
variable {X : Cx}
/-- repr(x) of data at any depth -/
def rRepr (K : PySem.W.Frag) : List V → Hp → VK → Prop := fun xs H Q => ∃ (x : V) (d : PyData), xs = [x] ∧ Dp K H x d ∧ d.showable = true ∧ d.hasDict = false ∧ d.depth ≤ 150 ∧ d.shown.length ≤ sizeLine ∧ Q (.str d.shown) H
theorem call_repr (hg : X.A.guards = some []) (hu : X.A.units + 151 < cLine) : CallR X (.builtin "repr") (rRepr X.K) := by
  intro pins s σ H xs us Q I r h
  obtain ⟨x, d, rfl, hd, hs, hn, hdep, hsz, q⟩ := h
  obtain ⟨u, rfl, rx⟩ := vals1 r
  obtain ⟨as, rd⟩ := Dp.reads I d x u hd rx
  have rd0 := rd
  cases rd with
  | none => exact PySem.P.repr_of_none ⟨.str _, H, I.tok _, ⟨_, rfl⟩, q⟩
  | bool b => exact PySem.P.repr_of_bool ⟨.str _, H, I.tok _, ⟨_, rfl⟩, q⟩
  | int i t => exact PySem.P.repr_of_int (of_decide_eq_true hs) ⟨.str _, H, I.tok _, ⟨_, rfl⟩, q⟩
  | str z t => exact PySem.P.repr_of_str ⟨.str _, H, I.tok _, ⟨_, rfl⟩, q⟩ hsz
  | list h1 h2 h3 h4 => exact repr_of_reads' rd0 hs (fun z => by rw [hn] at z; cases z) hg (by omega) (fun _ _ e => e) (fun h' u tk hk => ⟨.str _, H, I.kept hk, ⟨_, rfl⟩, q⟩) hsz
  | tuple h1 h2 h3 h4 => exact repr_of_reads' rd0 hs (fun z => by rw [hn] at z; cases z) hg (by omega) (fun _ _ e => e) (fun h' u tk hk => ⟨.str _, H, I.kept hk, ⟨_, rfl⟩, q⟩) hsz
  | dict h1 h2 h3 h4 h5 => cases hn
end
section
/-- the head, for a law whose promise wants that no repr is under way -/
theorem law_goG {P : Program} {w : World} {K : PySem.W.Frag} {mg mb : Str → Option Value} {k : Nat} {fa a : Addr} {fd : FuncData} {x : Str} {sp : Sp} {s₁ : Shared} {vs : List Value} {ns : List Int}
    (KX : K.In s₁.heap) (hns : s₁.heap.Ns mainGlobals mg) (hb : s₁.heap.Ns builtinsNs mb) (hbb : ∀ x : Str, x ≠ "__name__" → mb x = bootBuiltins x) (hlim : s₁.heap.NoLimit) (hg : s₁.gens = #[])
    (ha : s₁.heap.get? a = some { cls := .type "list", data := .seq vs.toArray }) (hi : IntsAre vs ns) (hl : ns.length ≤ sizeLine) (hr : RoomG k callerA)
    (F : ∀ base : Heap, K.In base → base.Ns mainGlobals mg → FnG P w K mg base CX0 k fa fd [x] sp) (hbind : ∀ (s : Shared) (u : Value), BindsTo s fd ⟨[u], []⟩ [(x, u)])
    (hsp : ∀ H : Hp, Only H → SqL K H a (ns.map V.int) → sp [.ref a] H (fun v _ => v = .bl true) fun _ _ _ => False) :
    codeAny (model P w) callerA (.call (.ref fa) ⟨[.ref a], []⟩) (fun r s' => r = .ok (.ret (.bool true)) ∧ OldK s₁.heap s'.heap ∧ s'.os = s₁.os ∧ AllBare s'.gens) s₁ := by
  have rv := vals_ints hi
  have run : ∀ G : Hp, Only G → SqL K G a (ns.map V.int) → HOk P w G s₁.heap → (∀ b, G b ≠ none → b = a) → (G a ≠ none → K.lookup a = none) →
      codeAny (model P w) callerA (.call (.ref fa) ⟨[.ref a], []⟩) (fun r s' => r = .ok (.ret (.bool true)) ∧ OldK s₁.heap s'.heap ∧ s'.os = s₁.os ∧ AllBare s'.gens) s₁ := by
    intro G gO gS gok gA gK
    have inB : ∀ {b : Addr} {o : Obj}, s₁.heap.get? b = some o → G b = none → (hidT s₁.heap G).get? b = some o := fun e n => hidT_get e n
    have only : ∀ {b : Addr} {u : HO}, G b = some u → b = a := fun {b u} q => gA b (by rw [q]; exact Option.some_ne_none _)
    have free : ∀ {b : Addr} {o : Obj} {es : Array DictEntry} {ep : Nat}, s₁.heap.get? b = some o → o.data = .dict es ep → G b = none := fun {b o es ep} e d => by
      cases q : G b with
      | none => rfl
      | some u =>
        cases only q
        rw [ha] at e
        cases e
        exact nomatch (show Data.seq vs.toArray _ = Data.dict es ep from d)
    have names : ∀ {b : Addr} {m : Str → Option Value}, s₁.heap.Ns b m → (hidT s₁.heap G).Ns b m := fun {b m} ⟨o, es, ep, e, d, r⟩ => ⟨o, es, ep, inB e (free e d), d, r⟩
    have kB : K.In (hidT s₁.heap G) := fun b o e => inB (KX b o e) (by
      cases q : G b with
      | none => rfl
      | some u =>
        cases only q
        have z := gK (by rw [q]; exact Option.some_ne_none _)
        rw [z] at e
        cases e)
    have md : Mod K mg (hidT s₁.heap G) := ⟨kB, names hns, ⟨mb, names hb, hbb⟩, let ⟨mc, h1, h2⟩ := hlim; ⟨mc, names h1, h2⟩⟩
    have e0 : Env0 P w K mg (hidT s₁.heap G) callerA [] s₁ G := ⟨rfl, md, fun b o e => of_hidT e, Nat.le_of_eq (hidT_size _ _), trivial, fun b z => absurd (show b ∈ ([] : List Addr) from z) List.not_mem_nil, gok, .of_eq hg⟩
    refine codeAny_mono ((F _ kB (names hns)).go callerA [] s₁ G ⟨[.ref a], []⟩ [.ref a] [.ref a] _ _ hr e0 (hbind s₁ (.ref a)) (.cons rfl .nil) (hsp G gO gS)) fun r s' h => ?_
    match r, h with
    | .error e, h => exact False.elim h
    | .ok .next, h => exact False.elim h
    | .ok .brk, h => exact False.elim h
    | .ok .cont, h => exact False.elim h
    | .ok (.ret u), h =>
      obtain ⟨v, G', os, bare, un, gok', r', q⟩ := h
      cases (show v = V.bl true from q)
      cases (show u = Value.bool true from r')
      refine ⟨rfl, OldK.of_keep fun b o e => ?_, os, bare⟩
      cases q : G b with
      | none => exact un.keep b o e q (fun z => absurd (show b ∈ ([] : List Addr) from z) List.not_mem_nil) List.not_mem_nil
      | some u =>
        rcases gO b with z | ⟨ob, xs, z⟩
        · rw [q] at z
          cases z
        · have z2 := un.frzs b ob _ z
          have e1 := (gok b _ z).1
          have e2 := (gok' b _ z2).1
          rw [e] at e1
          cases e1
          exact e2
  cases hk : K.lookup a with
  | some o =>
    have e := KX a o hk
    rw [ha] at e
    cases e
    exact run (fun _ => none) (fun _ => .inl rfl) (.inr ⟨_, vs.toArray, _, hk, rfl, rfl, rfl, by rw [List.size_toArray, hi.length]; exact hl, by simpa using rv⟩) (fun b u z => nomatch (show (none : Option HO) = some u from z)) (fun b z => absurd rfl z) fun z => absurd rfl z
  | none =>
    have at_ : ∀ b, b = a → (fun b => if b = a then some (HO.frz { cls := .type "list", data := .seq vs.toArray } (.lst (ns.map V.int))) else none) b = some (.frz { cls := .type "list", data := .seq vs.toArray } (.lst (ns.map V.int))) := fun b e => if_pos e
    have no_ : ∀ b, b ≠ a → (fun b => if b = a then some (HO.frz { cls := .type "list", data := .seq vs.toArray } (.lst (ns.map V.int))) else none) b = none := fun b e => if_neg e
    refine run (fun b => if b = a then some (.frz { cls := .type "list", data := .seq vs.toArray } (.lst (ns.map V.int))) else none) (fun b => ?_) (.inl (.inr ⟨{ cls := .type "list", data := .seq vs.toArray }, if_pos rfl⟩)) (fun b u z => ?_) (fun b z => ?_) fun _ => hk
    · by_cases e : b = a
      · exact .inr ⟨_, _, at_ b e⟩
      · exact .inl (no_ b e)
    · by_cases e : b = a
      · have z2 := (at_ b e).symm.trans z
        cases z2
        subst e
        exact ⟨ha, by rw [List.length_map]; exact hl, vs, _, rv, ha⟩
      · exact nomatch (no_ b e).symm.trans z
    · by_cases e : b = a
      · exact e
      · exact absurd (no_ b e) z
/-- the goal that the head leaves, as walk_of -/
theorem walk_ofG {l : PySem.W.OpenLaw} {n k : Nat} {q : Program} {loose : List Str} {XP : (Str → Option Value) → Heap → Prop} {YP : World → Heap → Prop} {d : DefRec} {K : Params → PySem.W.Frag} {sp : World → Sp} {x : Str}
    (hn : l.most = some n) (hn2 : n ≤ sizeLine) (hdf : d.params.defaults = []) (hr : RoomG k callerA) (hY : ∀ (w : World) (h : Heap), YP w h → (K w.params).In h)
    (F : ∀ (w : World) (mg : Str → Option Value) (fa : Addr) (h : Heap), (K w.params).In h → h.Ns mainGlobals mg → mg d.name = some (.ref fa) →
      ∃ fd : FuncData, (∀ (s : Shared) (u : Value), BindsTo s fd ⟨[u], []⟩ [(x, u)]) ∧ ∀ base : Heap, (K w.params).In base → base.Ns mainGlobals mg → FnG l.prog w (K w.params) mg base CX0 k fa fd [x] (sp w))
    (hsp : ∀ (w : World) (H : Hp) (a : Addr) (ns : List Int), ns.length ≤ n → Only H → SqL (K w.params) H a (ns.map V.int) → sp w [.ref a] H (fun v _ => v = .bl true) fun _ _ _ => False) :
    PySem.W.WalkO q loose XP YP l.row.toRowW d [] (fun f vs => PySem.call f vs) := by
  refine Att.attach_call hn hdf fun w s₀ s₁ mg mb fa o pm cd doc a vs ns G Y ho hd hcd hmg hobj hints hlen hg => ?_
  obtain ⟨fd, hb, hF⟩ := F w mg fa _ (hY w _ Y) G.T.g hmg
  exact law_goG (hY w _ Y) G.T.g G.T.b G.T.builtins G.T.nolimit hg hobj hints (Nat.le_trans hlen hn2) hr hF hb fun H hO hS => hsp w H a ns hlen hO hS
end
end TG
/-! writings: what they are, how they stand in the heap, their free names -/
namespace TG
open PySem PySem.Spec L2
open PyProof.Rows hiding St
/-- a writing -/
inductive Wr where
  | nm (z : Str)
  | of (x : Str) (b : Wr)
  | to (a b : Wr)
namespace Wr
/-- its signs -/
def sg : Wr → Nat
  | nm _ => 1
  | of _ b => b.sg + 1
  | to a b => a.sg + b.sg + 1
/-- its layers -/
def ly : Wr → Nat
  | nm _ => 1
  | of _ b => b.ly + 1
  | to a b => max a.ly b.ly + 1
/-- all its names are good -/
def all (p : Str → Bool) : Wr → Bool
  | nm z => p z
  | of x b => p x && b.all p
  | to a b => a.all p && b.all p
/-- its free names, each once, as they first stand -/
def fr : Wr → List Str
  | nm z => [z]
  | of x b => b.fr.filter fun z => decide (z ≠ x)
  | to a b => a.fr ++ b.fr.filter fun z => decide (z ∉ a.fr)
/-- told in tuples -/
def d : Wr → PyData
  | nm z => .str z
  | of x b => .tuple [.str "of", .str x, b.d]
  | to a b => .tuple [.str "to", a.d, b.d]
/-- told in lists -/
def dl : Wr → PyData
  | nm z => .str z
  | of x b => .list [.str "of", .str x, b.dl]
  | to a b => .list [.str "to", a.dl, b.dl]
theorem sg_pos : ∀ w : Wr, 1 ≤ w.sg
  | nm _ => Nat.le_refl _
  | of _ b => by show 1 ≤ b.sg + 1; omega
  | to a b => by show 1 ≤ a.sg + b.sg + 1; omega
theorem ly_pos : ∀ w : Wr, 1 ≤ w.ly
  | nm _ => Nat.le_refl _
  | of _ b => Nat.succ_le_succ (Nat.zero_le _)
  | to a b => Nat.succ_le_succ (Nat.zero_le _)
theorem ly_sg : ∀ w : Wr, w.ly ≤ w.sg
  | nm _ => Nat.le_refl _
  | of _ b => Nat.succ_le_succ (ly_sg b)
  | to a b => by
    have h1 := ly_sg a
    have h2 := ly_sg b
    show max a.ly b.ly + 1 ≤ a.sg + b.sg + 1
    omega
theorem fr_len : ∀ w : Wr, w.fr.length ≤ w.sg
  | nm _ => Nat.le_refl _
  | of x b => Nat.le_succ_of_le (Nat.le_trans (List.length_filter_le _ _) (fr_len b))
  | to a b => by
    have h1 := fr_len a
    have h2 := fr_len b
    have h3 := List.length_filter_le (fun z => decide (z ∉ a.fr)) b.fr
    show (a.fr ++ b.fr.filter fun z => decide (z ∉ a.fr)).length ≤ a.sg + b.sg + 1
    rw [List.length_append]
    omega
theorem fr_nodup : ∀ w : Wr, w.fr.Nodup
  | nm _ => List.nodup_cons.mpr ⟨List.not_mem_nil, List.nodup_nil⟩
  | of x b => (fr_nodup b).filter _
  | to a b => by
    refine List.nodup_append.mpr ⟨fr_nodup a, (fr_nodup b).filter _, fun x hx y hy e => ?_⟩
    subst e
    exact (of_decide_eq_true (List.mem_filter.mp hy).2) hx
theorem fr_all {p : Str → Bool} : ∀ {w : Wr}, w.all p = true → ∀ z ∈ w.fr, p z = true
  | nm z, h, y, hy => by cases List.mem_singleton.mp hy; exact h
  | of x b, h, y, hy => fr_all (Bool.and_eq_true_iff.mp h).2 y (List.mem_filter.mp hy).1
  | to a b, h, y, hy => by
    rcases List.mem_append.mp hy with hy | hy
    · exact fr_all (Bool.and_eq_true_iff.mp h).1 y hy
    · exact fr_all (Bool.and_eq_true_iff.mp h).2 y (List.mem_filter.mp hy).1
/-- the walk: around are the names bound, found those that stand ahead -/
def go : Wr → List Str → List Str → List Str
  | nm z, ar, f => if z ∈ ar ++ f then f else f ++ [z]
  | of x b, ar, f => b.go (ar ++ [x]) f
  | to a b, ar, f => b.go ar (a.go ar f)
theorem go_eq : ∀ (w : Wr) (ar f : List Str), w.go ar f = f ++ w.fr.filter fun z => decide (z ∉ ar ++ f)
  | nm z, ar, f => by
    show (if z ∈ ar ++ f then f else f ++ [z]) = f ++ [z].filter _
    by_cases h : z ∈ ar ++ f
    · rw [if_pos h, List.filter_cons_of_neg (by simp [h])]
      simp
    · rw [if_neg h, List.filter_cons_of_pos (by simpa using h)]
      rfl
  | of x b, ar, f => by
    show b.go (ar ++ [x]) f = f ++ (b.fr.filter _).filter _
    rw [go_eq b, List.filter_filter]
    congr 1
    refine List.filter_congr fun z _ => ?_
    simp only [List.mem_append, List.mem_singleton, not_or]
    by_cases h1 : z ∈ ar <;> by_cases h2 : z ∈ f <;> by_cases h3 : z = x <;> simp [h1, h2, h3]
  | to a b, ar, f => by
    show b.go ar (a.go ar f) = f ++ (a.fr ++ b.fr.filter _).filter _
    rw [go_eq b, go_eq a, List.filter_append, List.append_assoc, List.filter_filter]
    congr 2
    refine List.filter_congr fun z _ => ?_
    simp only [List.mem_append, List.mem_filter, not_or]
    by_cases h1 : z ∈ ar <;> by_cases h2 : z ∈ f <;> by_cases h3 : z ∈ a.fr <;> simp [h1, h2, h3]
/-- all these bound in front -/
def close (w : Wr) (l : List Str) : Wr := l.foldl (fun c x => .of x c) w
theorem frs_close : ∀ (l : List Str) (w : Wr), (w.close l).fr = w.fr.filter fun z => decide (z ∉ l)
  | [], w => by
    show w.fr = w.fr.filter _
    exact (List.filter_eq_self.mpr fun z _ => decide_eq_true List.not_mem_nil).symm
  | x :: l, w => by
    show ((Wr.of x w).close l).fr = _
    rw [frs_close l]
    show (w.fr.filter _).filter _ = _
    rw [List.filter_filter]
    refine List.filter_congr fun z _ => ?_
    by_cases h1 : z = x <;> by_cases h2 : z ∈ l <;> simp [h1, h2]
theorem sg_close : ∀ (l : List Str) (w : Wr), (w.close l).sg = w.sg + l.length
  | [], _ => rfl
  | x :: l, w => by
    show ((Wr.of x w).close l).sg = _
    rw [sg_close l]
    show w.sg + 1 + l.length = w.sg + (l.length + 1)
    omega
theorem all_close {p : Str → Bool} : ∀ (l : List Str) (w : Wr), w.all p = true → (∀ z ∈ l, p z = true) → (w.close l).all p = true
  | [], _, h, _ => h
  | x :: l, w, h, k => all_close l (.of x w) (Bool.and_eq_true_iff.mpr ⟨k x List.mem_cons_self, h⟩) fun z hz => k z (List.mem_cons_of_mem _ hz)
theorem close_fr (w : Wr) : (w.close w.fr).fr = [] := by
  rw [frs_close]
  exact List.filter_eq_nil_iff.mpr fun z hz => by simp [hz]
theorem close_snoc (w : Wr) (l : List Str) (x : Str) : w.close (l ++ [x]) = .of x (w.close l) := by
  show (l ++ [x]).foldl _ w = _
  rw [List.foldl_append]
  rfl
theorem go_nil (w : Wr) : w.go [] [] = w.fr := by
  rw [go_eq]
  simp
end Wr
/-- it stands at v, in tuples -/
inductive WA (H : Hp) : V → Wr → Prop where
  | nm (z : Str) : WA H (.str z) (.nm z)
  | of {a : Addr} {x : Str} {v : V} {b : Wr} : H a = some (.tup [.str "of", .str x, v]) → WA H v b → WA H (.ref a) (.of x b)
  | to {a : Addr} {u v : V} {b c : Wr} : H a = some (.tup [.str "to", u, v]) → WA H u b → WA H v c → WA H (.ref a) (.to b c)
/-- in lists, none of which stands at p -/
inductive LA (p : Addr) (H : Hp) : V → Wr → Prop where
  | nm (z : Str) : LA p H (.str z) (.nm z)
  | of {a : Addr} {x : Str} {v : V} {b : Wr} : a ≠ p → H a = some (.lst [.str "of", .str x, v]) → LA p H v b → LA p H (.ref a) (.of x b)
  | to {a : Addr} {u v : V} {b c : Wr} : a ≠ p → H a = some (.lst [.str "to", u, v]) → LA p H u b → LA p H v c → LA p H (.ref a) (.to b c)
theorem WA.mono {H H' : Hp} {v : V} {w : Wr} (h : WA H v w) (k : ∀ a xs, H a = some (.tup xs) → H' a = some (.tup xs)) : WA H' v w := by
  induction h with
  | nm z => exact .nm z
  | of e _ ih => exact .of (k _ _ e) ih
  | to e _ _ i1 i2 => exact .to (k _ _ e) i1 i2
theorem WA.same {H H' : Hp} {v : V} {w : Wr} (h : WA H v w) (s : Same H H') : WA H' v w := h.mono fun a xs e => s _ _ e
theorem LA.mono {p : Addr} {H H' : Hp} {v : V} {w : Wr} (h : LA p H v w) (k : ∀ a o, a ≠ p → H a = some o → H' a = some o) : LA p H' v w := by
  induction h with
  | nm z => exact .nm z
  | of n e _ ih => exact .of n (k _ _ n e) ih
  | to n e _ _ i1 i2 => exact .to n (k _ _ n e) i1 i2
theorem WA.dp {K : PySem.W.Frag} {H : Hp} {v : V} {w : Wr} (h : WA H v w) : Dp K H v w.d := by
  induction h with
  | nm z => exact .str z
  | of e _ ih => exact .tup (SqT.of e) (.cons (.str _) (.cons (.str _) (.cons ih .nil)))
  | to e _ _ i1 i2 => exact .tup (SqT.of e) (.cons (.str _) (.cons i1 (.cons i2 .nil)))
theorem LA.dp {K : PySem.W.Frag} {p : Addr} {H : Hp} {v : V} {w : Wr} (h : LA p H v w) : Dp K H v w.dl := by
  induction h with
  | nm z => exact .str z
  | of n e _ ih => exact .lst (SqL.of e) (.cons (.str _) (.cons (.str _) (.cons ih .nil)))
  | to n e _ _ i1 i2 => exact .lst (SqL.of e) (.cons (.str _) (.cons i1 (.cons i2 .nil)))
/-- what a value tells, be it lists or tuples -/
inductive Tells : PyData → Wr → Prop where
  | nm (z : Str) : Tells (.str z) (.nm z)
  | ofT {x : Str} {e : PyData} {b : Wr} : Tells e b → Tells (.tuple [.str "of", .str x, e]) (.of x b)
  | ofL {x : Str} {e : PyData} {b : Wr} : Tells e b → Tells (.list [.str "of", .str x, e]) (.of x b)
  | toT {e g : PyData} {b c : Wr} : Tells e b → Tells g c → Tells (.tuple [.str "to", e, g]) (.to b c)
  | toL {e g : PyData} {b c : Wr} : Tells e b → Tells g c → Tells (.list [.str "to", e, g]) (.to b c)
theorem tells_d : ∀ w : Wr, Tells w.d w
  | .nm z => .nm z
  | .of _ b => .ofT (tells_d b)
  | .to a b => .toT (tells_d a) (tells_d b)
theorem tells_dl : ∀ w : Wr, Tells w.dl w
  | .nm z => .nm z
  | .of _ b => .ofL (tells_dl b)
  | .to a b => .toL (tells_dl a) (tells_dl b)
/-- a name that the rules let be one -/
def okN (z : Str) : Bool := decide (z ≠ "of") && decide (z ≠ "to") && (decide (1 ≤ z.length) && decide (z.length ≤ 12)) &&
  (match z.cps.toList with
    | [] => false
    | c :: r => decide (97 ≤ c ∧ c ≤ 122) && r.all fun c => decide (97 ≤ c ∧ c ≤ 122) || decide (48 ≤ c ∧ c ≤ 57))
/-- a tuple of names, shown -/
def nmsD (l : List Str) : PyData := .tuple (l.map PyData.str)
theorem nms_showable : ∀ l : List Str, (nmsD l).showable = true
  | [] => rfl
  | z :: r => nms_showable r
theorem nms_noDict : ∀ l : List Str, (nmsD l).hasDict = false
  | [] => rfl
  | z :: r => nms_noDict r
theorem nms_depth : ∀ l : List Str, (nmsD l).depth ≤ 1
  | [] => Nat.le_refl _
  | z :: r => by
    have h := nms_depth r
    show max 0 (PyData.depthAll (r.map PyData.str)) + 1 ≤ 1
    have h2 : PyData.depthAll (r.map PyData.str) + 1 ≤ 1 := h
    omega
theorem ok_signs {z : Str} (h : okN z = true) : z.length ≤ 12 ∧ z.cps.toList.all (fun c => decide (c < 128)) = true := by
  unfold okN at h
  simp only [Bool.and_eq_true, decide_eq_true_eq] at h
  obtain ⟨⟨_, _, h1⟩, h2⟩ := h
  refine ⟨h1, ?_⟩
  revert h2
  cases z.cps.toList with
  | nil => intro h2; rfl
  | cons c r =>
    intro h2
    simp only [Bool.and_eq_true, decide_eq_true_eq, List.all_eq_true] at h2
    rw [List.all_cons, Bool.and_eq_true]
    refine ⟨decide_eq_true (by omega), List.all_eq_true.mpr fun x hx => decide_eq_true ?_⟩
    have z2 := h2.2 x hx
    simp only [Bool.or_eq_true, decide_eq_true_eq] at z2
    omega
theorem nms_short {l : List Str} (h : ∀ z ∈ l, okN z = true) : (nmsD l).leavesShort 8 = true ∧ (nmsD l).bulk ≤ 13 * l.length := by
  induction l with
  | nil => exact ⟨rfl, Nat.zero_le _⟩
  | cons z r ih =>
    obtain ⟨h1, h2⟩ := ih fun y hy => h y (List.mem_cons_of_mem _ hy)
    obtain ⟨z1, z2⟩ := ok_signs (h z List.mem_cons_self)
    refine ⟨?_, ?_⟩
    · show (PyData.leavesShort 8 (.str z) && PyData.leavesShortAll 8 (r.map PyData.str)) = true
      rw [Bool.and_eq_true]
      refine ⟨?_, h1⟩
      show (z.cps.toList.all fun c => decide (c < 16 ^ 8)) = true
      refine List.all_eq_true.mpr fun c hc => decide_eq_true ?_
      have e := of_decide_eq_true (List.all_eq_true.mp z2 c hc)
      exact Nat.lt_trans e (by decide)
    · have h3 : PyData.bulkAll (r.map PyData.str) ≤ 13 * r.length := h2
      have h4 : z.cps.size ≤ 12 := z1
      show z.cps.size + 1 + PyData.bulkAll (r.map PyData.str) ≤ 13 * (r.length + 1)
      omega
theorem nms_fits {l : List Str} (h : ∀ z ∈ l, okN z = true) (hl : l.length ≤ 2000) : (nmsD l).shown.length ≤ sizeLine := by
  obtain ⟨h1, h2⟩ := nms_short h
  exact PyData.shown_fits_bulk (B := 8) (by decide) (by decide) h1 (by omega)
theorem nms_lay {l : List Str} (h : ∀ z ∈ l, okN z = true) : SeqAt.shaped (nmsD l) = true := by
  unfold SeqAt.shaped
  rw [Bool.and_eq_true]
  refine ⟨?_, decide_eq_true (Nat.le_trans (nms_depth l) (by decide))⟩
  induction l with
  | nil => rfl
  | cons z r ih =>
    show (PyData.canLay0 (.str z) && PyData.canLayAll0 (r.map PyData.str)) = true
    rw [Bool.and_eq_true]
    refine ⟨?_, ih fun y hy => h y (List.mem_cons_of_mem _ hy)⟩
    obtain ⟨_, z2⟩ := ok_signs (h z List.mem_cons_self)
    show (z.cps.all fun c => decide (c < 0x110000)) = true
    rw [← Array.all_toList]
    refine List.all_eq_true.mpr fun c hc => decide_eq_true ?_
    exact Nat.lt_trans (of_decide_eq_true (List.all_eq_true.mp z2 c hc)) (by decide)
theorem dp_strs {K : PySem.W.Frag} {H : Hp} : ∀ l : List Str, DpAll K H (l.map V.str) (l.map PyData.str)
  | [] => .nil
  | z :: r => .cons (.str z) (dp_strs r)
/-- what free_names promises: of any value that tells a good writing, the tuple of its free names -/
def spFree (K : PySem.W.Frag) : Sp := fun vs H Q _ => ∃ (v : V) (e : PyData) (w : Wr), vs = [v] ∧ Dp K H v e ∧ Tells e w ∧ w.all okN = true ∧ w.sg ≤ 2000 ∧ w.ly ≤ 200 ∧
  ∀ (a : Addr) (H' : Hp), Same H H' → SqT K H' a (w.fr.map V.str) → Q (.ref a) H'
end TG
/-! writings with their bound names counted outwards; what is put in them -/
namespace TG
open PySem PySem.Spec L2
open PyProof.Rows hiding St
inductive Bt where
  | bd (n : Nat)
  | fr (z : Str)
  | of (b : Bt)
  | to (a b : Bt)
deriving DecidableEq
namespace Bt
/-- the name is free in it -/
def uses (z : Str) : Bt → Bool
  | bd _ => false
  | fr y => decide (y = z)
  | of b => b.uses z
  | to a b => a.uses z || b.uses z
/-- something put for a free name -/
def sub : Bt → Str → Bt → Bt
  | bd n, _, _ => bd n
  | fr y, z, t => if y = z then t else fr y
  | of b, z, t => of (b.sub z t)
  | to a b, z, t => to (a.sub z t) (b.sub z t)
/-- a free name bound, k of the others being around -/
def bind (z : Str) : Nat → Bt → Bt
  | _, bd n => bd n
  | k, fr y => if y = z then bd k else fr y
  | k, of b => of (b.bind z (k + 1))
  | k, to a b => to (a.bind z k) (b.bind z k)
def ly : Bt → Nat
  | bd _ => 1
  | fr _ => 1
  | of b => b.ly + 1
  | to a b => max a.ly b.ly + 1
def all (p : Str → Bool) : Bt → Bool
  | bd _ => true
  | fr z => p z
  | of b => b.all p
  | to a b => a.all p && b.all p
theorem sub_none {z : Str} {t : Bt} : ∀ {b : Bt}, b.uses z = false → b.sub z t = b
  | bd _, _ => rfl
  | fr y, h => if_neg (of_decide_eq_false h)
  | of b, h => congrArg of (sub_none (b := b) h)
  | to a b, h => by
    obtain ⟨h1, h2⟩ := Bool.or_eq_false_iff.mp h
    show to _ _ = _
    rw [sub_none h1, sub_none h2]
theorem sub_self (z : Str) : ∀ b : Bt, b.sub z (fr z) = b
  | bd _ => rfl
  | fr y => by
    show (if y = z then fr z else fr y) = fr y
    by_cases h : y = z
    · rw [if_pos h, h]
    · rw [if_neg h]
  | of b => congrArg of (sub_self z b)
  | to a b => by
    show to _ _ = _
    rw [sub_self z a, sub_self z b]
theorem bind_none {z : Str} : ∀ {b : Bt} (k : Nat), b.uses z = false → b.bind z k = b
  | bd _, _, _ => rfl
  | fr y, _, h => if_neg (of_decide_eq_false h)
  | of b, k, h => congrArg of (bind_none (b := b) (k + 1) h)
  | to a b, k, h => by
    obtain ⟨h1, h2⟩ := Bool.or_eq_false_iff.mp h
    show to _ _ = _
    rw [bind_none k h1, bind_none k h2]
theorem uses_bind (z : Str) : ∀ (b : Bt) (k : Nat), (b.bind z k).uses z = false
  | bd _, _ => rfl
  | fr y, k => by
    show (if y = z then bd k else fr y).uses z = false
    by_cases h : y = z
    · rw [if_pos h]
      rfl
    · rw [if_neg h]
      exact decide_eq_false h
  | of b, k => uses_bind z b (k + 1)
  | to a b, k => by
    show ((a.bind z k).uses z || (b.bind z k).uses z) = false
    rw [uses_bind z a, uses_bind z b]
    rfl
theorem uses_bind_ne {z y : Str} (n : y ≠ z) : ∀ (b : Bt) (k : Nat), (b.bind z k).uses y = b.uses y
  | bd _, _ => rfl
  | fr x, k => by
    show (if x = z then bd k else fr x).uses y = decide (x = y)
    by_cases h : x = z
    · rw [if_pos h, decide_eq_false fun e => n (e.symm.trans h)]
      rfl
    · rw [if_neg h]
      rfl
  | of b, k => uses_bind_ne n b (k + 1)
  | to a b, k => by
    show ((a.bind z k).uses y || (b.bind z k).uses y) = (a.uses y || b.uses y)
    rw [uses_bind_ne n a, uses_bind_ne n b]
theorem uses_sub {z y : Str} {t : Bt} : ∀ b : Bt, (b.sub z t).uses y = ((b.uses y && decide (y ≠ z)) || (b.uses z && t.uses y))
  | bd _ => rfl
  | fr x => by
    show (if x = z then t else fr x).uses y = ((decide (x = y) && decide (y ≠ z)) || (decide (x = z) && t.uses y))
    by_cases h : x = z
    · subst h
      rw [if_pos rfl, decide_eq_true rfl, Bool.true_and]
      by_cases e : x = y
      · subst e
        simp
      · rw [decide_eq_false e]
        rfl
    · rw [if_neg h, decide_eq_false h, Bool.false_and, Bool.or_false]
      show decide (x = y) = _
      by_cases e : x = y
      · subst e
        simp [h]
      · rw [decide_eq_false e]
        rfl
  | of b => uses_sub b
  | to a b => by
    show ((a.sub z t).uses y || (b.sub z t).uses y) = (((a.uses y || b.uses y) && decide (y ≠ z)) || ((a.uses z || b.uses z) && t.uses y))
    rw [uses_sub a, uses_sub b]
    cases a.uses y <;> cases b.uses y <;> cases a.uses z <;> cases b.uses z <;> cases t.uses y <;> cases decide (y ≠ z) <;> rfl
/-- put in one behind the other -/
theorem sub_sub {x y : Str} {a b : Bt} (n : x ≠ y) (h : b.uses x = false) : ∀ m : Bt, (m.sub x a).sub y b = (m.sub y b).sub x (a.sub y b)
  | bd _ => rfl
  | fr z => by
    show (if z = x then a else fr z).sub y b = (if z = y then b else fr z).sub x (a.sub y b)
    by_cases h1 : z = x
    · have h2 : ¬ z = y := fun e => n (h1.symm.trans e)
      rw [if_pos h1, if_neg h2]
      show _ = if z = x then _ else _
      rw [if_pos h1]
    · rw [if_neg h1]
      show (if z = y then b else fr z) = _
      by_cases h2 : z = y
      · rw [if_pos h2, sub_none h]
      · rw [if_neg h2]
        show _ = if z = x then _ else fr z
        rw [if_neg h1]
  | of m => congrArg of (sub_sub n h m)
  | to p q => by
    show to _ _ = to _ _
    rw [sub_sub n h p, sub_sub n h q]
/-- what is put under a binder whose name is not in it -/
theorem bind_sub {x y : Str} {a : Bt} (n : x ≠ y) (h : a.uses y = false) : ∀ (m : Bt) (k : Nat), (m.sub x a).bind y k = (m.bind y k).sub x a
  | bd _, _ => rfl
  | fr z, k => by
    show (if z = x then a else fr z).bind y k = (if z = y then bd k else fr z).sub x a
    by_cases h1 : z = x
    · have h2 : ¬ z = y := fun e => n (h1.symm.trans e)
      rw [if_pos h1, if_neg h2, bind_none k h]
      show _ = if z = x then _ else _
      rw [if_pos h1]
    · rw [if_neg h1]
      show (if z = y then bd k else fr z) = _
      by_cases h2 : z = y
      · rw [if_pos h2]
        rfl
      · rw [if_neg h2]
        show _ = if z = x then _ else fr z
        rw [if_neg h1]
  | of m, k => congrArg of (bind_sub n h m (k + 1))
  | to p q, k => by
    show to _ _ = to _ _
    rw [bind_sub n h p, bind_sub n h q]
/-- a name exchanged for a new one, and that bound -/
theorem bind_new {y u : Str} : ∀ (m : Bt) (k : Nat), m.uses u = false → (m.sub y (fr u)).bind u k = m.bind y k
  | bd _, _, _ => rfl
  | fr z, k, h => by
    have nu : ¬ z = u := of_decide_eq_false h
    show (if z = y then fr u else fr z).bind u k = if z = y then bd k else fr z
    by_cases h1 : z = y
    · rw [if_pos h1, if_pos h1]
      exact if_pos rfl
    · rw [if_neg h1, if_neg h1]
      exact if_neg nu
  | of m, k, h => congrArg of (bind_new m (k + 1) h)
  | to p q, k, h => by
    obtain ⟨h1, h2⟩ := Bool.or_eq_false_iff.mp h
    show to _ _ = to _ _
    rw [bind_new p k h1, bind_new q k h2]
/-- a name exchanged for a new one, and something put for that -/
theorem sub_new {x u : Str} {a : Bt} : ∀ m : Bt, m.uses u = false → (m.sub x (fr u)).sub u a = m.sub x a
  | bd _, _ => rfl
  | fr z, h => by
    have nu : ¬ z = u := of_decide_eq_false h
    show (if z = x then fr u else fr z).sub u a = if z = x then a else fr z
    by_cases h1 : z = x
    · rw [if_pos h1, if_pos h1]
      exact if_pos rfl
    · rw [if_neg h1, if_neg h1]
      exact if_neg nu
  | of m, h => congrArg of (sub_new m h)
  | to p q, h => by
    obtain ⟨h1, h2⟩ := Bool.or_eq_false_iff.mp h
    show to _ _ = to _ _
    rw [sub_new p h1, sub_new q h2]
theorem ly_pos : ∀ b : Bt, 1 ≤ b.ly
  | bd _ => Nat.le_refl _
  | fr _ => Nat.le_refl _
  | of b => Nat.succ_le_succ (Nat.zero_le _)
  | to a b => Nat.succ_le_succ (Nat.zero_le _)
theorem ly_sub (z : Str) (t : Bt) : ∀ b : Bt, (b.sub z t).ly ≤ b.ly + t.ly
  | bd _ => Nat.le_add_right _ _
  | fr y => by
    show (if y = z then t else fr y).ly ≤ 1 + t.ly
    by_cases h : y = z
    · rw [if_pos h]; omega
    · rw [if_neg h]; exact Nat.le_add_right _ _
  | of b => by
    have := ly_sub z t b
    show (b.sub z t).ly + 1 ≤ b.ly + 1 + t.ly
    omega
  | to a b => by
    have h1 := ly_sub z t a
    have h2 := ly_sub z t b
    show max (a.sub z t).ly (b.sub z t).ly + 1 ≤ max a.ly b.ly + 1 + t.ly
    omega
theorem all_sub {p : Str → Bool} {z : Str} {t : Bt} (ht : t.all p = true) : ∀ {b : Bt}, b.all p = true → (b.sub z t).all p = true
  | bd _, _ => rfl
  | fr y, h => by
    show (if y = z then t else fr y).all p = true
    by_cases e : y = z
    · rw [if_pos e]; exact ht
    · rw [if_neg e]; exact h
  | of b, h => all_sub ht (b := b) h
  | to a b, h => Bool.and_eq_true_iff.mpr ⟨all_sub ht (Bool.and_eq_true_iff.mp h).1, all_sub ht (Bool.and_eq_true_iff.mp h).2⟩
end Bt
namespace Wr
/-- its bound names counted outwards, those around the nearest first -/
def cnt : Wr → List Str → Bt
  | nm z, ar => if z ∈ ar then .bd (ar.idxOf z) else .fr z
  | of x b, ar => .of (b.cnt (x :: ar))
  | to a b, ar => .to (a.cnt ar) (b.cnt ar)
theorem cnt_ly : ∀ (w : Wr) (ar : List Str), (w.cnt ar).ly = w.ly
  | nm z, ar => by
    show (if z ∈ ar then Bt.bd (ar.idxOf z) else .fr z).ly = 1
    split <;> rfl
  | of x b, ar => congrArg (· + 1) (cnt_ly b (x :: ar))
  | to a b, ar => by
    show max (a.cnt ar).ly (b.cnt ar).ly + 1 = max a.ly b.ly + 1
    rw [cnt_ly a, cnt_ly b]
theorem cnt_all {p : Str → Bool} : ∀ {w : Wr} (ar : List Str), w.all p = true → (w.cnt ar).all p = true
  | nm z, ar, h => by
    show (if z ∈ ar then Bt.bd (ar.idxOf z) else .fr z).all p = true
    split
    · rfl
    · exact h
  | of x b, ar, h => cnt_all (w := b) (x :: ar) (Bool.and_eq_true_iff.mp h).2
  | to a b, ar, h => Bool.and_eq_true_iff.mpr ⟨cnt_all ar (Bool.and_eq_true_iff.mp h).1, cnt_all ar (Bool.and_eq_true_iff.mp h).2⟩
/-- a name more, outside of all others -/
theorem cnt_snoc (y : Str) : ∀ (w : Wr) (ar : List Str), w.cnt (ar ++ [y]) = (w.cnt ar).bind y ar.length
  | nm z, ar => by
    show (if z ∈ ar ++ [y] then Bt.bd ((ar ++ [y]).idxOf z) else .fr z) = (if z ∈ ar then Bt.bd (ar.idxOf z) else .fr z).bind y ar.length
    by_cases h : z ∈ ar
    · rw [if_pos (List.mem_append_left _ h), if_pos h, List.idxOf_append, if_pos h]
      rfl
    · rw [if_neg h]
      show _ = if z = y then Bt.bd ar.length else .fr z
      by_cases e : z = y
      · subst e
        rw [if_pos rfl, if_pos (List.mem_append_right _ (List.mem_singleton_self z)), List.idxOf_append, if_neg h, List.idxOf_cons_self]
        congr 1
        omega
      · rw [if_neg e, if_neg]
        intro q
        rcases List.mem_append.mp q with q | q
        · exact h q
        · exact e (List.mem_singleton.mp q)
  | of x b, ar => congrArg Bt.of (cnt_snoc y b (x :: ar))
  | to a b, ar => by
    show Bt.to _ _ = Bt.to _ _
    rw [cnt_snoc y a, cnt_snoc y b]
theorem cnt_of (x : Str) (b : Wr) : (Wr.of x b).cnt [] = .of ((b.cnt []).bind x 0) := congrArg Bt.of (cnt_snoc x b [])
theorem uses_cnt (z : Str) : ∀ (w : Wr) (ar : List Str), (w.cnt ar).uses z = decide (z ∈ w.fr ∧ z ∉ ar)
  | nm y, ar => by
    show (if y ∈ ar then Bt.bd (ar.idxOf y) else .fr y).uses z = decide (z ∈ [y] ∧ z ∉ ar)
    by_cases h : y ∈ ar
    · rw [if_pos h]
      refine (decide_eq_false ?_).symm
      rintro ⟨h1, h2⟩
      exact h2 (List.mem_singleton.mp h1 ▸ h)
    · rw [if_neg h]
      show decide (y = z) = _
      by_cases e : y = z
      · subst e
        rw [decide_eq_true rfl, decide_eq_true ⟨List.mem_singleton_self y, h⟩]
      · rw [decide_eq_false e, decide_eq_false]
        exact fun q => e (List.mem_singleton.mp q.1).symm
  | of x b, ar => by
    show (b.cnt (x :: ar)).uses z = decide (z ∈ (b.fr.filter fun z => decide (z ≠ x)) ∧ z ∉ ar)
    rw [uses_cnt z b]
    refine decide_eq_decide.mpr ?_
    simp only [List.mem_filter, List.mem_cons, decide_eq_true_eq, not_or]
    constructor
    · rintro ⟨h1, h2, h3⟩
      exact ⟨⟨h1, h2⟩, h3⟩
    · rintro ⟨⟨h1, h2⟩, h3⟩
      exact ⟨h1, h2, h3⟩
  | to a b, ar => by
    show ((a.cnt ar).uses z || (b.cnt ar).uses z) = decide (z ∈ (a.fr ++ b.fr.filter fun z => decide (z ∉ a.fr)) ∧ z ∉ ar)
    rw [uses_cnt z a, uses_cnt z b, Bool.eq_iff_iff]
    simp only [Bool.or_eq_true, decide_eq_true_eq, List.mem_append, List.mem_filter]
    by_cases h1 : z ∈ a.fr <;> by_cases h2 : z ∈ b.fr <;> by_cases h3 : z ∈ ar <;> simp [h1, h2, h3]
/-- alike in writing -/
def alk (w v : Wr) : Bool := decide (w.cnt [] = v.cnt [])
end Wr
end TG
/-! counted writings in the heap; what put and alike promise -/
namespace TG
open PySem PySem.Spec L2
open PyProof.Rows hiding St
namespace Bt
def sg : Bt → Nat
  | bd _ => 1
  | fr _ => 1
  | of b => b.sg + 1
  | to a b => a.sg + b.sg + 1
theorem sg_pos : ∀ b : Bt, 1 ≤ b.sg
  | bd _ => Nat.le_refl _
  | fr _ => Nat.le_refl _
  | of b => Nat.succ_le_succ (Nat.zero_le _)
  | to a b => Nat.succ_le_succ (Nat.zero_le _)
theorem sg_sub (z : Str) (t : Bt) : ∀ b : Bt, (b.sub z t).sg ≤ b.sg * t.sg
  | bd _ => by
    have := t.sg_pos
    show 1 ≤ 1 * t.sg
    omega
  | fr y => by
    have := t.sg_pos
    show (if y = z then t else fr y).sg ≤ 1 * t.sg
    by_cases h : y = z
    · rw [if_pos h]; omega
    · rw [if_neg h]; show 1 ≤ 1 * t.sg; omega
  | of b => by
    have h := sg_sub z t b
    have := t.sg_pos
    show (b.sub z t).sg + 1 ≤ (b.sg + 1) * t.sg
    rw [Nat.add_mul]
    omega
  | to a b => by
    have h1 := sg_sub z t a
    have h2 := sg_sub z t b
    have := t.sg_pos
    show (a.sub z t).sg + (b.sub z t).sg + 1 ≤ (a.sg + b.sg + 1) * t.sg
    rw [Nat.add_mul, Nat.add_mul]
    omega
/-- its leaves -/
def lv : Bt → Nat
  | bd _ => 1
  | fr _ => 1
  | of b => b.lv
  | to a b => a.lv + b.lv
theorem lv_sg : ∀ b : Bt, 2 * b.lv ≤ b.sg + 1
  | bd _ => Nat.le_refl _
  | fr _ => Nat.le_refl _
  | of b => by
    have h := lv_sg b
    show 2 * b.lv ≤ b.sg + 1 + 1
    omega
  | to a b => by
    have h1 := lv_sg a
    have h2 := lv_sg b
    show 2 * (a.lv + b.lv) ≤ a.sg + b.sg + 1 + 1
    omega
theorem lv_pos : ∀ b : Bt, 1 ≤ b.lv
  | bd _ => Nat.le_refl _
  | fr _ => Nat.le_refl _
  | of b => lv_pos b
  | to a b => Nat.le_trans (lv_pos a) (Nat.le_add_right _ _)
theorem lv_sub (z : Str) (t : Bt) : ∀ b : Bt, (b.sub z t).lv ≤ b.lv * t.lv
  | bd _ => by
    have := t.lv_pos
    show 1 ≤ 1 * t.lv
    omega
  | fr y => by
    have := t.lv_pos
    show (if y = z then t else fr y).lv ≤ 1 * t.lv
    by_cases h : y = z
    · rw [if_pos h]; omega
    · rw [if_neg h]; show 1 ≤ 1 * t.lv; omega
  | of b => lv_sub z t b
  | to a b => by
    have h1 := lv_sub z t a
    have h2 := lv_sub z t b
    show (a.sub z t).lv + (b.sub z t).lv ≤ (a.lv + b.lv) * t.lv
    rw [Nat.add_mul]
    omega
theorem sg_sub2 (z : Str) (t : Bt) : ∀ b : Bt, (b.sub z t).sg ≤ b.sg + b.lv * t.sg
  | bd _ => Nat.le_add_right _ _
  | fr y => by
    show (if y = z then t else fr y).sg ≤ 1 + 1 * t.sg
    by_cases h : y = z
    · rw [if_pos h]; omega
    · rw [if_neg h]; exact Nat.le_add_right _ _
  | of b => by
    have h := sg_sub2 z t b
    show (b.sub z t).sg + 1 ≤ b.sg + 1 + b.lv * t.sg
    omega
  | to a b => by
    have h1 := sg_sub2 z t a
    have h2 := sg_sub2 z t b
    show (a.sub z t).sg + (b.sub z t).sg + 1 ≤ a.sg + b.sg + 1 + (a.lv + b.lv) * t.sg
    rw [Nat.add_mul]
    omega
def d : Bt → PyData
  | bd n => .tuple [.str "bound", .int (n : Int)]
  | fr z => .tuple [.str "free", .str z]
  | of b => .tuple [.str "of", b.d]
  | to a b => .tuple [.str "to", a.d, b.d]
theorem d_depth : ∀ b : Bt, b.d.depth = b.ly
  | bd _ => rfl
  | fr _ => rfl
  | of b => by
    have h := d_depth b
    show max 0 (max b.d.depth 0) + 1 = b.ly + 1
    rw [h]
    omega
  | to a b => by
    have h1 := d_depth a
    have h2 := d_depth b
    show max 0 (max a.d.depth (max b.d.depth 0)) + 1 = max a.ly b.ly + 1
    rw [h1, h2]
    omega
theorem ok_lay {z : Str} (h : okN z = true) : PyData.canLay0 (.str z) = true := by
  have e := nms_lay (l := [z]) fun y hy => by rw [List.mem_singleton.mp hy]; exact h
  have c := SeqAt.canLay_of_shaped e
  have c2 : (PyData.canLay0 (.str z) && PyData.canLayAll0 []) = true := c
  exact (Bool.and_eq_true_iff.mp c2).1
theorem d_lay : ∀ {b : Bt}, b.all okN = true → b.d.canLay0 = true
  | bd _, _ => by
    show (PyData.canLay0 (.str "bound") && (PyData.canLay0 (.int _) && PyData.canLayAll0 [])) = true
    rw [show PyData.canLay0 (.str "bound") = true by decide +kernel]
    rfl
  | fr z, h => by
    show (PyData.canLay0 (.str "free") && (PyData.canLay0 (.str z) && PyData.canLayAll0 [])) = true
    rw [show PyData.canLay0 (.str "free") = true by decide +kernel, ok_lay h]
    rfl
  | of b, h => by
    show (PyData.canLay0 (.str "of") && (b.d.canLay0 && PyData.canLayAll0 [])) = true
    rw [show PyData.canLay0 (.str "of") = true by decide +kernel, d_lay (b := b) h]
    rfl
  | to a b, h => by
    show (PyData.canLay0 (.str "to") && (a.d.canLay0 && (b.d.canLay0 && PyData.canLayAll0 []))) = true
    rw [show PyData.canLay0 (.str "to") = true by decide +kernel, d_lay (Bool.and_eq_true_iff.mp h).1, d_lay (Bool.and_eq_true_iff.mp h).2]
    rfl
theorem d_shaped {b : Bt} (h : b.all okN = true) (l : b.ly ≤ 64) : SeqAt.shaped b.d = true := by
  unfold SeqAt.shaped
  rw [d_lay h, d_depth b, decide_eq_true l]
  rfl
theorem tag_ne {p q : Str} (n : (p == q) = false) (xs ys : List PyData) : PyData.eqv (.tuple (.str p :: xs)) (.tuple (.str q :: ys)) = false := by
  show ((p == q) && PyData.eqvAll xs ys) = false
  rw [n]
  rfl
theorem d_eqv : ∀ a b : Bt, PyData.eqv a.d b.d = decide (a = b)
  | bd n, bd m => by
    show (("bound" : Str) == "bound" && (((n : Int) == (m : Int)) && true)) = _
    rw [Bool.eq_iff_iff]
    simp
    omega
  | fr z, fr y => by
    show (("free" : Str) == "free" && ((z == y) && true)) = _
    rw [Bool.eq_iff_iff]
    simp
  | of a, of b => by
    show (("of" : Str) == "of" && (PyData.eqv a.d b.d && true)) = _
    rw [d_eqv a b, Bool.eq_iff_iff]
    simp
  | to a b, to c e => by
    show (("to" : Str) == "to" && (PyData.eqv a.d c.d && (PyData.eqv b.d e.d && true))) = _
    rw [d_eqv a c, d_eqv b e, Bool.eq_iff_iff]
    simp
  | bd n, fr z' => (tag_ne (by decide +kernel) _ _).trans (decide_eq_false (fun z => by cases z)).symm
  | bd n, of b' => (tag_ne (by decide +kernel) _ _).trans (decide_eq_false (fun z => by cases z)).symm
  | bd n, to b' c' => (tag_ne (by decide +kernel) _ _).trans (decide_eq_false (fun z => by cases z)).symm
  | fr z, bd n' => (tag_ne (by decide +kernel) _ _).trans (decide_eq_false (fun z => by cases z)).symm
  | fr z, of b' => (tag_ne (by decide +kernel) _ _).trans (decide_eq_false (fun z => by cases z)).symm
  | fr z, to b' c' => (tag_ne (by decide +kernel) _ _).trans (decide_eq_false (fun z => by cases z)).symm
  | of b, bd n' => (tag_ne (by decide +kernel) _ _).trans (decide_eq_false (fun z => by cases z)).symm
  | of b, fr z' => (tag_ne (by decide +kernel) _ _).trans (decide_eq_false (fun z => by cases z)).symm
  | of b, to b' c' => (tag_ne (by decide +kernel) _ _).trans (decide_eq_false (fun z => by cases z)).symm
  | to b c, bd n' => (tag_ne (by decide +kernel) _ _).trans (decide_eq_false (fun z => by cases z)).symm
  | to b c, fr z' => (tag_ne (by decide +kernel) _ _).trans (decide_eq_false (fun z => by cases z)).symm
  | to b c, of b' => (tag_ne (by decide +kernel) _ _).trans (decide_eq_false (fun z => by cases z)).symm
end Bt
theorem Wr.cnt_sg : ∀ (w : Wr) (ar : List Str), (w.cnt ar).sg = w.sg
  | .nm z, ar => by
    show (if z ∈ ar then Bt.bd (ar.idxOf z) else .fr z).sg = 1
    split <;> rfl
  | .of x b, ar => congrArg (· + 1) (Wr.cnt_sg b (x :: ar))
  | .to a b, ar => by
    show (a.cnt ar).sg + (b.cnt ar).sg + 1 = a.sg + b.sg + 1
    rw [Wr.cnt_sg a, Wr.cnt_sg b]
/-- a counted one stands at v -/
inductive TA (H : Hp) : V → Bt → Prop where
  | bd {a : Addr} {n : Nat} : H a = some (.tup [.str "bound", .int (n : Int)]) → TA H (.ref a) (.bd n)
  | fr {a : Addr} {z : Str} : H a = some (.tup [.str "free", .str z]) → TA H (.ref a) (.fr z)
  | of {a : Addr} {v : V} {b : Bt} : H a = some (.tup [.str "of", v]) → TA H v b → TA H (.ref a) (.of b)
  | to {a : Addr} {u v : V} {b c : Bt} : H a = some (.tup [.str "to", u, v]) → TA H u b → TA H v c → TA H (.ref a) (.to b c)
theorem TA.mono {H H' : Hp} {v : V} {b : Bt} (h : TA H v b) (k : ∀ a xs, H a = some (.tup xs) → H' a = some (.tup xs)) : TA H' v b := by
  induction h with
  | bd e => exact .bd (k _ _ e)
  | fr e => exact .fr (k _ _ e)
  | of e _ ih => exact .of (k _ _ e) ih
  | to e _ _ i1 i2 => exact .to (k _ _ e) i1 i2
theorem TA.same {H H' : Hp} {v : V} {b : Bt} (h : TA H v b) (s : Same H H') : TA H' v b := h.mono fun a xs e => s _ _ e
theorem TA.dp {K : PySem.W.Frag} {H : Hp} {v : V} {b : Bt} (h : TA H v b) : Dp K H v b.d := by
  induction h with
  | bd e => exact .tup (SqT.of e) (.cons (.str _) (.cons (.int _) .nil))
  | fr e => exact .tup (SqT.of e) (.cons (.str _) (.cons (.str _) .nil))
  | of e _ ih => exact .tup (SqT.of e) (.cons (.str _) (.cons ih .nil))
  | to e _ _ i1 i2 => exact .tup (SqT.of e) (.cons (.str _) (.cons i1 (.cons i2 .nil)))
/-- what put promises: a writing in tuples that is, counted outwards, what must be -/
def spPut (K : PySem.W.Frag) : Sp := fun vs H Q _ => ∃ (v u : V) (x : Str) (d e : PyData) (w a : Wr), vs = [v, .str x, u] ∧ Dp K H v d ∧ Tells d w ∧ w.all okN = true ∧ w.sg ≤ 2000 ∧ w.ly ≤ 200 ∧ okN x = true ∧ Dp K H u e ∧ Tells e a ∧ a.all okN = true ∧ a.sg ≤ 2000 ∧ a.ly ≤ 200 ∧
  ((w.cnt []).sub x (a.cnt [])).sg ≤ 2000 ∧ ((w.cnt []).sub x (a.cnt [])).ly ≤ 200 ∧
  ∀ (v' : V) (w' : Wr) (H' : Hp), Same H H' → WA H' v' w' → w'.all okN = true → w'.cnt [] = (w.cnt []).sub x (a.cnt []) → Q v' H'
/-- what alike promises -/
def spAlike (K : PySem.W.Frag) : Sp := fun vs H Q _ => ∃ (v u : V) (d e : PyData) (w a : Wr), vs = [v, u] ∧ Dp K H v d ∧ Tells d w ∧ w.all okN = true ∧ w.sg ≤ 2000 ∧ w.ly ≤ 200 ∧ Dp K H u e ∧ Tells e a ∧ a.all okN = true ∧ a.sg ≤ 2000 ∧ a.ly ≤ 200 ∧
  ∀ (H' : Hp), Same H H' → Q (.bl (w.alk a)) H'
end TG
/-! small words for lists of names, tuples, slices -/
namespace TG
open PySem PySem.Spec L2
open PyProof.Rows hiding St
theorem new_same {H : Hp} {q : Addr} {o : HO} (h : H q = none) : Same H (L2.upd H q o) := fun b u hb => by rw [upd_ne (ne_of_none hb h)]; exact hb
theorem take_more {α : Type} {xs : List α} {i : Nat} {x : α} (h : xs[i]? = some x) : xs.take (i + 1) = xs.take i ++ [x] := by
  rw [List.take_add_one, h]
  rfl
theorem last_snoc (l : List V) (x : V) : (l ++ [x])[(l ++ [x]).length - 1]? = some x := by simp
theorem inV_strs (z : Str) (l : List Str) : inV (.str z) (l.map V.str) = decide (z ∈ l) := by
  unfold inV
  rw [Bool.eq_iff_iff, List.any_eq_true, decide_eq_true_eq]
  constructor
  · rintro ⟨y, hy, e⟩
    obtain ⟨x, hx, rfl⟩ := List.mem_map.mp hy
    have h : x = z := by simpa [eqV] using e
    exact h ▸ hx
  · exact fun h => ⟨.str z, List.mem_map.mpr ⟨z, h, rfl⟩, by simp [eqV]⟩
theorem flat_strs (l : List Str) : (l.map V.str).all flatV = true := List.all_eq_true.mpr fun y hy => by
  obtain ⟨x, _, rfl⟩ := List.mem_map.mp hy
  rfl
theorem sqT_same {K : PySem.W.Frag} {H H' : Hp} {a : Addr} {xs : List V} (h : SqT K H a xs) (s : Same H H') : SqT K H' a xs := by
  rcases h with h | h
  · rcases h with h | ⟨o, h⟩
    · exact .inl (.inl (s _ _ h))
    · exact .inl (.inr ⟨o, s _ _ h⟩)
  · exact .inr h
theorem cat_any {K : PySem.W.Frag} {H : Hp} {a b : Addr} {xs ys : List V} {Q : VK} (ha : SqT K H a xs) (hb : SqT K H b ys) (hl : xs.length + ys.length ≤ sizeLine) (q : ∀ (c : Addr) (G : Hp), Same H G → SqT K G c (xs ++ ys) → Q (.ref c) G) : rCatA K (.ref a) (.ref b) H Q := by
  refine ⟨a, b, xs, ys, rfl, rfl, ha, hb, hl, fun e => ?_, fun _ e => ?_, fun _ _ p hp => q p _ (new_same hp) (SqT.of upd_same)⟩
  · subst e
    exact q b H (fun _ _ e => e) hb
  · subst e
    exact q a H (fun _ _ e => e) (by rw [List.append_nil]; exact ha)
theorem mem_all {l : List Str} {p : Str → Bool} (h : l.all p = true) : ∀ z ∈ l, p z = true := fun z hz => List.all_eq_true.mp h z hz
theorem erase_map (f : Str → V) : ∀ (l : List Str) (k : Nat), (l.map f).eraseIdx k = (l.eraseIdx k).map f
  | [], _ => rfl
  | _ :: _, 0 => rfl
  | x :: r, k + 1 => by
    show f x :: (r.map f).eraseIdx k = f x :: (r.eraseIdx k).map f
    rw [erase_map f r k]
theorem cut_from (l : List V) (k : Nat) (h : k ≤ l.length) : cutV l (some (k : Int)) none = l.drop k := by
  unfold cutV
  rw [HT.sIx_none, HT.sIx_nat, Nat.min_eq_left h, List.take_of_length_le]
  rw [List.length_drop]
  exact Nat.le_refl _
theorem cut_to (l : List V) (k : Nat) (h : k ≤ l.length) : cutV l none (some (k : Int)) = l.take k := by
  unfold cutV
  rw [HT.sIx_none, HT.sIx_nat, Nat.min_eq_left h, List.drop_zero, Nat.sub_zero]
theorem perm_erase : ∀ {ls : List Str} {k : Nat} {y : Str}, ls[k]? = some y → (y :: ls.eraseIdx k).Perm ls
  | x :: r, 0, y, h => by cases h; exact .refl _
  | x :: r, k + 1, y, h => (List.Perm.swap x y _).trans (.cons x (perm_erase (k := k) (ls := r) h))
theorem perm_move {os ls : List Str} {k : Nat} {y : Str} (h : ls[k]? = some y) : (os ++ [y] ++ ls.eraseIdx k).Perm (os ++ ls) := by
  rw [List.append_assoc]
  exact (perm_erase h).append_left os
theorem all_imp {p q : Str → Bool} (h : ∀ z, p z = true → q z = true) : ∀ {w : Wr}, w.all p = true → w.all q = true
  | .nm z, e => h z e
  | .of x b, e => Bool.and_eq_true_iff.mpr ⟨h x (Bool.and_eq_true_iff.mp e).1, all_imp h (Bool.and_eq_true_iff.mp e).2⟩
  | .to a b, e => Bool.and_eq_true_iff.mpr ⟨all_imp h (Bool.and_eq_true_iff.mp e).1, all_imp h (Bool.and_eq_true_iff.mp e).2⟩
theorem paired_get {α β : Type} {R : α → β → Prop} : ∀ {xs : List α} {ys : List β} {i : Nat} {x : α}, Paired R xs ys → xs[i]? = some x → ∃ y, ys[i]? = some y ∧ R x y
  | _, _, 0, _, .cons r _, e => by cases e; exact ⟨_, rfl, r⟩
  | _, _, i + 1, x, .cons _ t, e => paired_get (i := i) t e
theorem paired_snoc {α β : Type} {R : α → β → Prop} {x : α} {y : β} (r : R x y) : ∀ {xs : List α} {ys : List β}, Paired R xs ys → Paired R (xs ++ [x]) (ys ++ [y])
  | _, _, .nil => .cons r .nil
  | _, _, .cons a t => .cons a (paired_snoc r t)
theorem paired_imp {α β : Type} {R S : α → β → Prop} (h : ∀ x y, R x y → S x y) : ∀ {xs : List α} {ys : List β}, Paired R xs ys → Paired S xs ys
  | _, _, .nil => .nil
  | _, _, .cons a t => .cons (h _ _ a) (paired_imp h t)
theorem paired_len {α β : Type} {R : α → β → Prop} : ∀ {xs : List α} {ys : List β}, Paired R xs ys → xs.length = ys.length
  | _, _, .nil => rfl
  | _, _, .cons _ t => congrArg (· + 1) (paired_len t)
theorem paired_and {α β : Type} {R S T : α → β → Prop} (h : ∀ x y, R x y → S x y → T x y) : ∀ {xs : List α} {ys : List β}, Paired R xs ys → Paired S xs ys → Paired T xs ys
  | _, _, .nil, .nil => .nil
  | _, _, .cons a t, .cons b u => .cons (h _ _ a b) (paired_and h t u)
theorem filt_more {p : Str → Bool} {xs : List Str} {i : Nat} {x : Str} (h : xs[i]? = some x) : (xs.take (i + 1)).filter p = (xs.take i).filter p ++ if p x = true then [x] else [] := by
  rw [take_more h, List.filter_append]
  congr 1
  by_cases e : p x = true
  · rw [if_pos e, List.filter_cons_of_pos e]
    rfl
  · rw [if_neg e, List.filter_cons_of_neg e]
    rfl
end TG
/-! own rules: an attribute among the targets of a tuple, a written dict's get, tuple(dict) -/
namespace TG
open PySem PySem.Spec L2
open PyProof.Rows hiding St
/-- .. , o.f, .. = value -/
def gFld (K : PySem.W.Frag) (to : TE) (f : Str) : TG := fun v σ H Q => to σ H fun x H1 => ∃ a C dx fs, x = .ref a ∧ H1 a = some (.ins C dx fs) ∧ Cls K C ∧ NoAttr K C f ∧ fs.length < 1000 ∧ Q σ (upd H1 a (.ins C dx (putF f v fs)))
section
variable {X : Cx} {o : Expr} {to : TE} {f : Str} {pos : Pos}
theorem pg_fld (ho : PE X o to) (ha : ∀ v, assign (.Attribute o f pos) X.env v = (do
      let ov ← holding [v] (eval o X.env)
      standAt pos.atName
      holding [v, ov] (setAttr ov f v)
      release [v, ov] []) := by intro _; rfl) : PG X (.Attribute o f pos) (gFld X.K to f) := by
  refine ⟨fun pins s σ H v u Q I r h => ?_⟩
  rw [ha]
  refine wpAny_bind (wpAny_holding (thn (ho.run pins s σ H _ I h) fun ov s1 ⟨x, H1, I1, r1, a, C, dx, fs, ex, ea, c, n, l, q⟩ => ?_))
  subst ex
  obtain rfl : ov = Value.ref a := r1
  refine wpAny_bind (wpAny_standAt (wpAny_bind (wpAny_holding ?_)))
  exact setattr_ok I1 ea c n l r fun s3 I3 => wpAny_release ⟨σ, _, I3, q⟩
end
/-! ### d.get(k, x) of a dict of the module's top, its keys texts -/
/-- such a dict stands there -/
def KDic (K : PySem.W.Frag) (w : World) (a : Addr) : Prop := ∃ es n, K.lookup a = some ⟨.type "dict", none, .dict es n, #[]⟩ ∧ PySem.W.KeysLit w.params es.toList ∧ (a == sysModules) = false
def tKGet (K : PySem.W.Frag) (w : World) (td ty tx : TE) : TE := fun σ H Q => td σ H fun x H1 => ∃ a, x = .ref a ∧ KDic K w a ∧ ty σ H1 fun y H2 => tx σ H2 fun z H3 => ∃ k, y = .str k ∧
  ((∃ v u, PySem.W.nsIn K a k = some (some u) ∧ RelV v u ∧ Q v H3) ∨ (PySem.W.nsIn K a k = some none ∧ Q z H3))
section
variable {X : Cx} {o e f : Expr} {apos cpos : Pos} {td ty tx : TE}
theorem pe_kget (ho : PE X o td) (he : PE X e ty) (hf : PE X f tx) (m : M2 X o "get" apos e f cpos) : PE X (.Call (.Attribute o "get" apos) [e, f] [] cpos) (tKGet X.K X.w td ty tx) := by
  refine ⟨fun pins s σ H Q I h => ?_⟩
  refine wpAny_Call_method m.base m.few m.line PySem.F.plainAttrs_dict PySem.F.slot_dict_get PySem.F.type_dict_get (thn (ho.run pins s σ H _ I h) fun u s1 ⟨x, H1, I1, rx, a, ex, ⟨es, n, hl, hk, hs⟩, q1⟩ => ?_)
  subst ex
  obtain rfl : u = Value.ref a := rx
  have hm1 := PySem.W.mapOf_K (prog := X.prog) (w := X.w) I1.kIn hl hk
  refine ⟨hm1.typeIs, fun b q => ?_, ?_⟩
  · cases q
    exact ⟨_, I1.kIn _ _ hl, rfl⟩
  rw [m.trees]
  refine Calls.callWith_builtin rfl (Calls.evalArgs_plain (Calls.spliced_cons (thn (he.run pins s1 σ H1 _ I1 q1) fun iv s2 ⟨y, H2, I2, ry, q2⟩ =>
    Calls.spliced_cons (thn (hf.run pins s2 σ H2 _ I2 q2) fun fv s3 ⟨z, H3, I3, rz, k, ey, q3⟩ => Calls.spliced_nil ?_))))
  subst ey
  obtain ⟨t, rfl⟩ := (show ∃ t, iv = Value.str k t from ry)
  have hm := PySem.W.mapOf_K (prog := X.prog) (w := X.w) I3.kIn hl hk
  refine call_meetsIn PySem.F.slot_dict_get hm.typeIs PySem.F.entry_dict_get (PySem.F.args_dict_get_3 _ _ _) (meets_dict_get_default (strKind X.prog X.w) a (strKind_is X.prog X.w k t) hs fv) ⟨_, hm, ?_⟩
  rcases q3 with ⟨v, u, e, r, q⟩ | ⟨e, q⟩
  · rw [PySem.W.find_K hl e]
    exact ⟨v, H3, I3.tok _, r, q⟩
  · rw [PySem.W.find_K hl e]
    exact ⟨z, H3, I3.tok _, rz, q⟩
end
/-! ### tuple(d), the keys of a dict -/
section
variable {prog : Program} {w : World} {A : Around} {E : Value → Shared → Prop} {s : Shared} {T : String} {r d : Addr} {n : Nat} {P : Nat → Value → Prop} {OK : Heap → Prop}
theorem collect_src {Q : List Value → Shared → Prop} (K : PySem.W.KdlSrc prog w T r d n P OK) (hh : A.handled = none) (hok : OK s.heap)
    (hQ : ∀ h' tk (acc : Array Value), (∀ b o, s.heap.get? b = some o → Heap.get? h' b = some o) → ItemsOf P acc n → Q acc.toList { s with heap := h', toks := tk }) (hn : n ≤ sizeLine) :
    wpAny (model prog w) A (collect (.ref r)) Q E s := by
  unfold collect
  refine wpAny_bind (wpAny_runValue (codeAny_builtin PySem.F.entry_proto_collect ?_))
  rw [Around.under_plainId PySem.F.plain_proto_collect _]
  show wpAny _ A.in1 (newList [] >>= fun l => again (.builtin "list.__iadd__" ⟨[l, .ref r], []⟩)) _ _ s
  refine wpAny_bind (wpAny_newObj_type ?_)
  refine wpAny_pure ⟨plainId_quiet PySem.F.plain_list_iadd _, codeAny_builtin PySem.F.entry_list_iadd ?_⟩
  rw [Around.under_plainId PySem.F.plain_list_iadd _]
  show wpAny _ A.in1 (Builtin.List.listExtendWith (.ref s.heap.objs.size) (.ref r) (.ref s.heap.objs.size)) _ _ _
  have hlt := K.there _ hok
  have hS : (s.heap.push { cls := .type "list", data := .seq ([] : List Value).toArray }).get? s.heap.objs.size = some { cls := .type "list", data := .seq #[] 0 } := Heap.get?_push_size _ rfl
  refine wpAny_mono (PySem.W.kdl_extend (R := fun res s' => res = .ok (.ret (.ref s.heap.objs.size)) ∧ ∃ h' tk acc c', s' = { s with heap := h', toks := tk } ∧ (∀ b o, s.heap.get? b = some o → h'.get? b = some o) ∧ h'.get? s.heap.objs.size = some { cls := .type "list", dict := none, data := .seq acc c', slots := #[] } ∧ ItemsOf P acc n)
    (s := { s with heap := s.heap.push { cls := .type "list", data := .seq ([] : List Value).toArray } }) K hh (K.keep _ _ hok fun b _ o e => Heap.get?_push_of_some _ e) s.heap.objs.size (Nat.ne_of_gt hlt.1) (Nat.ne_of_gt hlt.2) _ 0 hS
    (fun h' tk acc' c' hk hS' hacc => ⟨rfl, h', tk, acc', c', rfl, fun b o e => hk b o (Nat.ne_of_lt (Heap.lt_size e)) (Heap.get?_push_of_some _ e), hS', hacc⟩) hn) (fun fin s' h => ?_) (fun e s' h => ?_)
  · have fin' : ∀ s' : Shared, (∃ h' tk acc c', s' = { s with heap := h', toks := tk } ∧ (∀ b o, s.heap.get? b = some o → h'.get? b = some o) ∧ h'.get? s.heap.objs.size = some { cls := .type "list", dict := none, data := .seq acc c', slots := #[] } ∧ ItemsOf P acc n) →
        wpAny (model prog w) A (match Value.ref s.heap.objs.size with
          | Value.ref a => do
            match (← load a).data with
              | Data.seq xs _ => pure xs.toList
              | _ => unsupported "internal:collect"
          | _ => unsupported "internal:collect") Q E s' := by
      rintro s' ⟨h', tk, acc, c', rfl, hk, hg, hi⟩
      show wpAny _ A (load s.heap.objs.size >>= _) _ _ _
      refine wpAny_bind (wpAny_load hg ?_)
      exact wpAny_pure (hQ h' tk acc hk hi)
    cases fin with
    | done f =>
      obtain ⟨e, h⟩ := h
      cases e
      exact fin' _ h
    | again c' => exact ⟨h.1, codeAny_mono h.2 fun r s'' hr => by obtain ⟨rfl, h⟩ := hr; exact fin' _ h⟩
  · exact absurd h.1 (by simp)
theorem code_tuple_src {Q₁ : Value → Shared → Prop} (K : PySem.W.KdlSrc prog w T r d n P OK) (hne : (Value.type T == Value.type "tuple") = false) (hh : A.handled = none) (hok : OK s.heap)
    (h : ∀ h' tk (acc : Array Value), (∀ b o, s.heap.get? b = some o → Heap.get? h' b = some o) → ItemsOf P acc n → Q₁ (.ref h'.objs.size) { s with heap := h'.push { cls := .type "tuple", data := .seq acc }, toks := tk }) (hsz : n ≤ sizeLine) :
    codeAny (model prog w) A (.call (.builtin "tuple.__new__") ⟨[.type "tuple", .ref r], []⟩) (wants Q₁ E) s := by
  refine codeAny_of_tree ?_
  show wpAny _ A.in1 (do checkBuiltinCall "tuple.__new__" ⟨[.type "tuple", .ref r], []⟩; again (.builtin "tuple.__new__" ⟨[.type "tuple", .ref r], []⟩)) _ _ s
  refine wpAny_bind (wpAny_of_eq (PySem.F.newCall_tuple_1 _) (wpAny_pure ⟨plainId_quiet PySem.F.plain_tuple_new _, codeAny_builtin PySem.F.entry_tuple_new ?_⟩))
  rw [Around.under_plainId PySem.F.plain_tuple_new _]
  have hsub := sub_tuple_self
  have hinit := init_tuple_lookup
  have hmh := madeHere_tuple
  have hTI := K.type s hok
  wp_walk using wpAny_typeOf hTI, collect_src (A := A.in1) (hn := hsz) K hh hok
  intro h' tk acc hk hacc
  show wpAny _ _ (Builtin.Tuple.tupleExact acc.toList.toArray >>= fun v => ret v) _ _ _
  unfold Builtin.Tuple.tupleExact
  refine wpAny_bind (wpAny_newObj_type ?_ (by show acc.toList.toArray.size ≤ sizeLine; simp only [Array.toArray_toList]; rw [hacc.1]; exact hsz))
  refine wpAny_pure ?_
  have e : acc.toList.toArray = acc := by simp
  rw [e]
  exact h h' tk acc hk hacc
theorem call_tuple_src {Q : Value → Shared → Prop} (K : PySem.W.KdlSrc prog w T r d n P OK) (hne : (Value.type T == Value.type "tuple") = false) (hh : A.handled = none) (hok : OK s.heap)
    (hQ : ∀ h' tk (acc : Array Value), (∀ b o, s.heap.get? b = some o → Heap.get? h' b = some o) → ItemsOf P acc n → Q (.ref h'.objs.size) { s with heap := h'.push { cls := .type "tuple", data := .seq acc }, toks := tk }) (hsz : n ≤ sizeLine) :
    wpAny (model prog w) A (call (.type "tuple") [.ref r]) Q E s := by
  refine callType_codes (Q₁ := fun obj s₁ => s₁.TypeIs obj "tuple" ∧ Q obj s₁) PySem.F.called_tuple (PySem.F.typeCall_tuple_1 _) PySem.F.entry_object_init
    (code_tuple_src (A := A.in1) K hne hh hok (fun h' tk acc hk hacc => ⟨⟨_, Heap.get?_push_size _ rfl, rfl⟩, hQ h' tk acc hk hacc⟩) hsz) fun obj s₁ h₁ => ?_
  exact ⟨h₁.1, PySem.F.args_object_init_2 obj _, object_init_meets PySem.F.called_tuple.init.lookup PySem.F.called_tuple.made (by decide) prog w A.in1 _ s₁ ⟨h₁.1, rfl, h₁.2⟩⟩
end
/-- the keys of a dict, in a new tuple -/
def rTupD : List V → Hp → VK → Prop := fun xs H Q => ∃ (d : Addr) (kvs : List (Key × V)), xs = [.ref d] ∧ Rd H d (.dK kvs) ∧ ∀ p, H p = none → Q (.ref p) (L2.upd H p (.tup (kvs.map fun kv => kV kv.1)))
section
variable {X : Cx}
theorem rel_kV {P : Program} {w : World} {k : Key} {v : Value} (h : (mixKind P w).is k v = true) : RelV (kV k) v := by
  rcases keyIs_shape (show keyIs k v = true from h) with ⟨i, t, rfl, rfl⟩ | ⟨x, t, rfl, rfl⟩
  · exact ⟨t, rfl⟩
  · exact ⟨t, rfl⟩
theorem vals_of : ∀ {xs : List V} {us : List Value}, xs.length = us.length → (∀ (i : Nat) (x : V) (u : Value), xs[i]? = some x → us[i]? = some u → RelV x u) → Vals xs us
  | [], [], _, _ => .nil
  | x :: xs, u :: us, hl, h => .cons (h 0 x u rfl rfl) (vals_of (Nat.succ.inj hl) fun i y v hy hv => h (i + 1) y v hy hv)
  | [], _ :: _, hl, _ => nomatch hl
  | _ :: _, [], hl, _ => nomatch hl
theorem kv_key : ∀ {kvs : List (Key × V)} {vs : List (Key × Value)} {i : Nat} {k : Key} {x : V}, KV kvs vs → kvs[i]? = some (k, x) → ∃ y, vs[i]? = some (k, y)
  | _, _, _, _, _, .nil, e => nomatch e
  | _, _, 0, _, _, .cons (b := b) h _, e => by cases e; obtain ⟨b1, b2⟩ := b; cases h.1; exact ⟨b2, rfl⟩
  | _, _, i + 1, k, x, .cons _ t, e => kv_key (i := i) (k := k) (x := x) t e
theorem call_tupleD (hc : X.calm = true) : CallR X (.type "tuple") rTupD := by
  intro pins s σ H xs us Q I r h
  obtain ⟨d, kvs, rfl, hd, q⟩ := h
  obtain ⟨u, rfl, rx⟩ := vals1 r
  cases rx
  obtain ⟨z, lo, vs, rel, o, es, ep, d1, d2, d3, d4, d5, d6⟩ := dk_rd I.hok hd
  have hl := rel.length
  refine call_tuple_src (n := vs.length) (PySem.W.kdl_dict (kvs := vs) (ep := ep) lo) (by decide +kernel) (I.ok.hd hc) ⟨o, es, d1, d2, d3, d4, d5, d6⟩ (fun h' tk acc hk hacc => ?_) (by omega)
  have rv : Vals (kvs.map fun kv => kV kv.1) acc.toList := by
    refine vals_of ((List.length_map _).trans (hl.trans hacc.1.symm)) fun i x u hx hu => ?_
    rw [List.getElem?_map] at hx
    obtain ⟨kv, hkv, rfl⟩ := Option.map_eq_some_iff.mp hx
    obtain ⟨y, hy⟩ := kv_key (i := i) (k := kv.1) (x := kv.2) rel hkv
    obtain ⟨k, x2, e1, e2⟩ := hacc.2 i u (by rw [← Array.getElem?_toList]; exact hu)
    rw [hy] at e1
    cases e1
    exact rel_kV e2
  have I1 : Inv X pins σ H { s with heap := h', toks := tk } := I.kept (t' := tk) hk
  have I2 : Inv X pins σ (L2.upd H h'.objs.size (.tup (kvs.map fun kv => kV kv.1))) { s with heap := h'.push { cls := .type "tuple", data := .seq acc }, toks := tk } :=
    I1.laid (t' := tk) (fun b o e => Heap.get?_push_of_some _ e) (Nat.le_refl _) (show ObjOk X.prog X.w _ _ _ (.tup _) from ⟨by rw [List.length_map]; exact z, acc.toList, rv, by rw [Array.toArray_toList]; exact IsTup.new _ _⟩)
  exact ⟨.ref h'.objs.size, _, I2, rfl, q _ (I1.hok.fresh (Nat.le_refl _))⟩
end
end TG
/-! the row of a writing's signs: what begins at each, what is bound around it, what it hangs on -/
namespace TG
open PySem PySem.Spec L2
open PyProof.Rows hiding St
namespace Wr
/-- what begins at each sign -/
def subs : Wr → List Wr
  | nm z => [nm z]
  | of x b => of x b :: b.subs
  | to a b => to a b :: (a.subs ++ b.subs)
/-- where its own parts begin, counted from it -/
def kids : Wr → List Nat
  | nm _ => []
  | of _ _ => [1]
  | to a _ => [1, 1 + a.sg]
def wd : Wr → Str
  | nm _ => "name"
  | of _ _ => "of"
  | to _ _ => "to"
theorem subs_len : ∀ w : Wr, w.subs.length = w.sg
  | nm _ => rfl
  | of _ b => by show b.subs.length + 1 = _; rw [subs_len b]; rfl
  | to a b => by show (a.subs ++ b.subs).length + 1 = _; rw [List.length_append, subs_len a, subs_len b]; rfl
theorem subs_zero : ∀ w : Wr, w.subs[0]? = some w
  | nm _ => rfl
  | of _ _ => rfl
  | to _ _ => rfl
theorem subs_at : ∀ {w s : Wr} {i : Nat}, w.subs[i]? = some s → ∀ j, j < s.sg → w.subs[i + j]? = s.subs[j]?
  | w, s, 0, h, j, _ => by
    rw [subs_zero] at h
    cases h
    rw [Nat.zero_add]
  | nm _, s, i + 1, h, j, _ => nomatch h
  | of x b, s, i + 1, h, j, hj => by
    have h : b.subs[i]? = some s := h
    rw [show i + 1 + j = (i + j) + 1 by omega]
    show b.subs[i + j]? = _
    exact subs_at h j hj
  | to a b, s, i + 1, h, j, hj => by
    have h : (a.subs ++ b.subs)[i]? = some s := h
    rw [show i + 1 + j = (i + j) + 1 by omega]
    show (a.subs ++ b.subs)[i + j]? = _
    by_cases c : i < a.subs.length
    · rw [List.getElem?_append_left c] at h
      have e := subs_at h j hj
      have hs : j < s.subs.length := by rw [subs_len]; exact hj
      have c2 : i + j < a.subs.length := by
        rw [List.getElem?_eq_getElem hs] at e
        exact (List.getElem?_eq_some_iff.mp e).1
      rw [List.getElem?_append_left c2, e]
    · rw [List.getElem?_append_right (by omega)] at h
      rw [List.getElem?_append_right (by omega), show i + j - a.subs.length = (i - a.subs.length) + j by omega]
      exact subs_at h j hj
theorem subs_lt {w s : Wr} {i : Nat} (h : w.subs[i]? = some s) : i < w.sg := by
  rw [← subs_len]
  exact (List.getElem?_eq_some_iff.mp h).1
theorem subs_fit {w s : Wr} {i : Nat} (h : w.subs[i]? = some s) : i + s.sg ≤ w.sg := by
  have p := s.sg_pos
  have e := subs_at h (s.sg - 1) (by omega)
  have hs : s.sg - 1 < s.subs.length := by rw [subs_len]; omega
  have := subs_lt (e.trans (List.getElem?_eq_getElem hs))
  omega
theorem kid_of {w b : Wr} {x : Str} {i : Nat} (h : w.subs[i]? = some (of x b)) : w.subs[i + 1]? = some b := by
  have p := b.sg_pos
  rw [subs_at h 1 (by show 1 < b.sg + 1; omega)]
  show b.subs[0]? = _
  exact subs_zero b
theorem kid_one {w a b : Wr} {i : Nat} (h : w.subs[i]? = some (to a b)) : w.subs[i + 1]? = some a := by
  have p := a.sg_pos
  rw [subs_at h 1 (by show 1 < a.sg + b.sg + 1; omega)]
  show (a.subs ++ b.subs)[0]? = _
  rw [List.getElem?_append_left (by rw [subs_len]; omega)]
  exact subs_zero a
theorem kid_two {w a b : Wr} {i : Nat} (h : w.subs[i]? = some (to a b)) : w.subs[i + 1 + a.sg]? = some b := by
  have p := b.sg_pos
  rw [show i + 1 + a.sg = i + (a.sg + 1) by omega, subs_at h (a.sg + 1) (by show a.sg + 1 < a.sg + b.sg + 1; omega)]
  show (a.subs ++ b.subs)[a.sg]? = _
  rw [List.getElem?_append_right (by rw [subs_len]; omega), subs_len, Nat.sub_self]
  exact subs_zero b
/-- each sign but the first begins a part of one ahead -/
theorem has_par : ∀ {w : Wr} {i : Nat}, 0 < i → i < w.sg → ∃ j s k, j < i ∧ w.subs[j]? = some s ∧ k ∈ s.kids ∧ i = j + k
  | nm _, i, h0, h1 => by
    have : i < 1 := h1
    omega
  | of x b, i, h0, h1 => by
    have h1 : i < b.sg + 1 := h1
    by_cases c : i = 1
    · exact ⟨0, of x b, 1, h0, rfl, List.mem_singleton_self 1, by omega⟩
    · obtain ⟨j, s, k, hj, hs, hk, e⟩ := has_par (w := b) (i := i - 1) (by omega) (by omega)
      exact ⟨j + 1, s, k, by omega, hs, hk, by omega⟩
  | to a b, i, h0, h1 => by
    have h1 : i < a.sg + b.sg + 1 := h1
    by_cases c : i = 1
    · exact ⟨0, to a b, 1, h0, rfl, List.mem_cons_self, by omega⟩
    by_cases c2 : i = 1 + a.sg
    · exact ⟨0, to a b, 1 + a.sg, h0, rfl, List.mem_cons_of_mem _ (List.mem_singleton_self _), by omega⟩
    by_cases c3 : i < 1 + a.sg
    · obtain ⟨j, s, k, hj, hs, hk, e⟩ := has_par (w := a) (i := i - 1) (by omega) (by omega)
      refine ⟨j + 1, s, k, by omega, ?_, hk, by omega⟩
      show (a.subs ++ b.subs)[j]? = _
      rw [List.getElem?_append_left (by rw [subs_len]; exact subs_lt hs)]
      exact hs
    · obtain ⟨j, s, k, hj, hs, hk, e⟩ := has_par (w := b) (i := i - 1 - a.sg) (by omega) (by omega)
      refine ⟨j + a.sg + 1, s, k, by omega, ?_, hk, by omega⟩
      show (a.subs ++ b.subs)[j + a.sg]? = _
      rw [List.getElem?_append_right (by rw [subs_len]; omega), subs_len, Nat.add_sub_cancel]
      exact hs
/-- the "of"s around each sign, the innermost first: their names and where they stand -/
def envs : Wr → Nat → List (Str × Nat) → List (List (Str × Nat))
  | nm _, _, e => [e]
  | of x b, o, e => e :: b.envs (o + 1) ((x, o) :: e)
  | to a b, o, e => e :: (a.envs (o + 1) e ++ b.envs (o + 1 + a.sg) e)
theorem envs_len : ∀ (w : Wr) (o : Nat) (e : List (Str × Nat)), (w.envs o e).length = w.sg
  | nm _, _, _ => rfl
  | of x b, o, e => by show (b.envs _ _).length + 1 = _; rw [envs_len b]; rfl
  | to a b, o, e => by show (a.envs _ _ ++ b.envs _ _).length + 1 = _; rw [List.length_append, envs_len a, envs_len b]; rfl
theorem envs_zero : ∀ (w : Wr) (o : Nat) (e : List (Str × Nat)), (w.envs o e)[0]? = some e
  | nm _, _, _ => rfl
  | of _ _, _, _ => rfl
  | to _ _, _, _ => rfl
theorem envs_at : ∀ {w s : Wr} {i o : Nat} {e0 : List (Str × Nat)}, w.subs[i]? = some s → ∃ e, ∀ j, j < s.sg → (w.envs o e0)[i + j]? = (s.envs (o + i) e)[j]?
  | w, s, 0, o, e0, h => by
    rw [subs_zero] at h
    cases h
    exact ⟨e0, fun j _ => by rw [Nat.zero_add, Nat.add_zero]⟩
  | nm _, s, i + 1, o, e0, h => nomatch h
  | of x b, s, i + 1, o, e0, h => by
    obtain ⟨e, he⟩ := envs_at (w := b) (o := o + 1) (e0 := (x, o) :: e0) (show b.subs[i]? = some s from h)
    refine ⟨e, fun j hj => ?_⟩
    rw [show i + 1 + j = (i + j) + 1 by omega, show o + (i + 1) = o + 1 + i by omega]
    exact he j hj
  | to a b, s, i + 1, o, e0, h => by
    have h : (a.subs ++ b.subs)[i]? = some s := h
    by_cases c : i < a.subs.length
    · rw [List.getElem?_append_left c] at h
      obtain ⟨e, he⟩ := envs_at (w := a) (o := o + 1) (e0 := e0) h
      refine ⟨e, fun j hj => ?_⟩
      rw [show i + 1 + j = (i + j) + 1 by omega, show o + (i + 1) = o + 1 + i by omega]
      show (a.envs (o + 1) e0 ++ _)[i + j]? = _
      have f := subs_fit h
      rw [List.getElem?_append_left (by rw [envs_len]; omega)]
      exact he j hj
    · rw [List.getElem?_append_right (by omega), subs_len] at h
      rw [subs_len] at c
      obtain ⟨e, he⟩ := envs_at (w := b) (o := o + 1 + a.sg) (e0 := e0) h
      refine ⟨e, fun j hj => ?_⟩
      rw [show i + 1 + j = (i + j) + 1 by omega, show o + (i + 1) = o + 1 + a.sg + (i - a.sg) by omega]
      show (a.envs (o + 1) e0 ++ b.envs (o + 1 + a.sg) e0)[i + j]? = _
      rw [List.getElem?_append_right (by rw [envs_len]; omega), envs_len, show i + j - a.sg = (i - a.sg) + j by omega]
      exact he j hj
/-- the "of"s around the sign at i -/
def env (w : Wr) (i : Nat) : List (Str × Nat) := ((w.envs 0 [])[i]?).getD []
theorem env_eq {w : Wr} {i : Nat} (h : i < w.sg) : (w.envs 0 [])[i]? = some (w.env i) := by
  unfold env
  rw [List.getElem?_eq_getElem (by rw [envs_len]; exact h)]
  rfl
theorem env_zero (w : Wr) : w.env 0 = [] := by
  unfold env
  rw [envs_zero]
  rfl
theorem env_of {w b : Wr} {x : Str} {i : Nat} (h : w.subs[i]? = some (of x b)) : w.env (i + 1) = (x, i) :: w.env i := by
  obtain ⟨e, he⟩ := envs_at (o := 0) (e0 := []) h
  have h0 := he 0 (Nat.succ_pos _)
  have h1 := he 1 (by have := b.sg_pos; show 1 < b.sg + 1; omega)
  rw [Nat.add_zero, Nat.zero_add] at h0
  rw [Nat.zero_add] at h1
  unfold env
  rw [h0, h1]
  show (((b.envs (i + 1) ((x, i) :: e))[0]?).getD []) = _
  rw [envs_zero, envs_zero]
  rfl
theorem env_one {w a b : Wr} {i : Nat} (h : w.subs[i]? = some (to a b)) : w.env (i + 1) = w.env i := by
  obtain ⟨e, he⟩ := envs_at (o := 0) (e0 := []) h
  have h0 := he 0 (Nat.succ_pos _)
  have h1 := he 1 (by have := a.sg_pos; show 1 < a.sg + b.sg + 1; omega)
  rw [Nat.add_zero, Nat.zero_add] at h0
  rw [Nat.zero_add] at h1
  unfold env
  rw [h0, h1]
  show (((a.envs (i + 1) e ++ _)[0]?).getD []) = _
  rw [List.getElem?_append_left (by rw [envs_len]; exact a.sg_pos), envs_zero, envs_zero]
theorem env_two {w a b : Wr} {i : Nat} (h : w.subs[i]? = some (to a b)) : w.env (i + 1 + a.sg) = w.env i := by
  obtain ⟨e, he⟩ := envs_at (o := 0) (e0 := []) h
  have h0 := he 0 (Nat.succ_pos _)
  have h1 := he (a.sg + 1) (by have := b.sg_pos; show a.sg + 1 < a.sg + b.sg + 1; omega)
  rw [Nat.add_zero, Nat.zero_add] at h0
  rw [Nat.zero_add] at h1
  unfold env
  rw [show i + 1 + a.sg = i + (a.sg + 1) by omega, h0, h1]
  show (((a.envs (i + 1) e ++ b.envs (i + 1 + a.sg) e)[a.sg]?).getD []) = _
  rw [List.getElem?_append_right (by rw [envs_len]; exact Nat.le_refl _), envs_len, Nat.sub_self, envs_zero, envs_zero]
/-- each of those around is an "of" of this name, and around it are those behind it -/
def Chain (w : Wr) : List (Str × Nat) → Prop
  | [] => True
  | (x, j) :: e => (∃ b, w.subs[j]? = some (of x b)) ∧ w.env j = e ∧ Chain w e
theorem chain_env (w : Wr) : ∀ {i : Nat}, i < w.sg → Chain w (w.env i) := by
  intro i
  induction i using Nat.strongRecOn with
  | _ i ih =>
    intro hi
    by_cases h0 : i = 0
    · subst h0
      rw [env_zero]
      exact trivial
    obtain ⟨j, s, k, hj, hs, hk, rfl⟩ := has_par (w := w) (i := i) (by omega) hi
    have c := ih j hj (subs_lt hs)
    cases s with
    | nm z => exact absurd hk List.not_mem_nil
    | of x b =>
      rw [List.mem_singleton.mp hk, env_of hs]
      exact ⟨⟨b, hs⟩, rfl, c⟩
    | to a b =>
      rcases List.mem_cons.mp hk with rfl | hk
      · rw [env_one hs]; exact c
      · rw [List.mem_singleton.mp hk, ← Nat.add_assoc, env_two hs]; exact c
theorem env_lt (w : Wr) : ∀ {i : Nat}, i < w.sg → ∀ p ∈ w.env i, p.2 < i := by
  intro i
  induction i using Nat.strongRecOn with
  | _ i ih =>
    intro hi p hp
    by_cases h0 : i = 0
    · subst h0
      rw [env_zero] at hp
      exact absurd hp List.not_mem_nil
    obtain ⟨j, s, k, hj, hs, hk, rfl⟩ := has_par (w := w) (i := i) (by omega) hi
    have c := ih j hj (subs_lt hs)
    cases s with
    | nm z => exact absurd hk List.not_mem_nil
    | of x b =>
      rw [List.mem_singleton.mp hk, env_of hs] at hp
      rw [List.mem_singleton.mp hk]
      rcases List.mem_cons.mp hp with rfl | hp
      · exact Nat.lt_succ_self _
      · exact Nat.lt_succ_of_lt (c p hp)
    | to a b =>
      rcases List.mem_cons.mp hk with rfl | hk
      · rw [env_one hs] at hp; exact Nat.lt_succ_of_lt (c p hp)
      · rw [List.mem_singleton.mp hk, ← Nat.add_assoc, env_two hs] at hp; exact Nat.lt_of_lt_of_le (c p hp) (Nat.le_add_right _ _)
/-- which "of" binds this name -/
def find (z : Str) : List (Str × Nat) → Option Nat
  | [] => none
  | (x, j) :: e => if x = z then some j else find z e
/-- the "of" that binds what stands at i -/
def bnd (w : Wr) (i : Nat) : Option Nat := match w.subs[i]? with
  | some (nm z) => find z (w.env i)
  | _ => none
theorem find_none {z : Str} : ∀ {e : List (Str × Nat)}, find z e = none ↔ z ∉ e.map (·.1)
  | [] => by simp [find]
  | (x, j) :: e => by
    show (if x = z then some j else find z e) = none ↔ _
    by_cases c : x = z
    · rw [if_pos c]
      simp [c]
    · rw [if_neg c, find_none]
      simp [Ne.symm c, eq_comm]
/-- how far out it is -/
theorem find_depth {w : Wr} {z : Str} : ∀ {e : List (Str × Nat)} {j : Nat}, Chain w e → find z e = some j → (w.env j).length + (e.map (·.1)).idxOf z + 1 = e.length ∧ j < w.sg
  | [], j, _, h => nomatch h
  | (x, k) :: e, j, c, h => by
    have h : (if x = z then some k else find z e) = some j := h
    obtain ⟨⟨b, hb⟩, he, c'⟩ := c
    by_cases q : x = z
    · rw [if_pos q] at h
      cases h
      subst q
      rw [he]
      refine ⟨?_, subs_lt hb⟩
      show e.length + (x :: e.map (·.1)).idxOf x + 1 = e.length + 1
      rw [List.idxOf_cons_self]
    · rw [if_neg q] at h
      obtain ⟨d, hj⟩ := find_depth c' h
      refine ⟨?_, hj⟩
      show (w.env j).length + (x :: e.map (·.1)).idxOf z + 1 = e.length + 1
      rw [List.idxOf_cons, show (x == z) = false by simpa using q, cond_false]
      omega
/-- all its free names where they stand, these being bound around -/
def frL : Wr → List Str → List Str
  | nm z, ar => if z ∈ ar then [] else [z]
  | of x b, ar => b.frL (x :: ar)
  | to a b, ar => a.frL ar ++ b.frL ar
def ins (f : List Str) (z : Str) : List Str := if z ∈ f then f else f ++ [z]
theorem frL_mem : ∀ (w : Wr) {ar br : List Str}, (∀ z, z ∈ ar ↔ z ∈ br) → w.frL ar = w.frL br
  | nm z, ar, br, h => by
    show (if z ∈ ar then [] else [z]) = if z ∈ br then [] else [z]
    by_cases c : z ∈ ar
    · rw [if_pos c, if_pos ((h z).mp c)]
    · rw [if_neg c, if_neg fun k => c ((h z).mpr k)]
  | of x b, ar, br, h => frL_mem b fun z => by simp only [List.mem_cons, h z]
  | to a b, ar, br, h => by
    show a.frL ar ++ b.frL ar = a.frL br ++ b.frL br
    rw [frL_mem a h, frL_mem b h]
theorem fold_frL : ∀ (w : Wr) (ar f : List Str), (w.frL ar).foldl ins f = w.go ar f
  | nm z, ar, f => by
    show (if z ∈ ar then [] else [z]).foldl ins f = if z ∈ ar ++ f then f else f ++ [z]
    by_cases c : z ∈ ar
    · rw [if_pos c, if_pos (List.mem_append_left _ c)]
      rfl
    · rw [if_neg c]
      show ins f z = _
      unfold ins
      by_cases d : z ∈ f
      · rw [if_pos d, if_pos (List.mem_append_right _ d)]
      · rw [if_neg d, if_neg fun h => (List.mem_append.mp h).elim c d]
  | of x b, ar, f => by
    show (b.frL (x :: ar)).foldl ins f = b.go (ar ++ [x]) f
    rw [← fold_frL b, frL_mem b (br := ar ++ [x]) fun z => by simp [or_comm]]
  | to a b, ar, f => by
    show (a.frL ar ++ b.frL ar).foldl ins f = b.go ar (a.go ar f)
    rw [List.foldl_append, fold_frL a, fold_frL b]
/-- a sign with what is around: the name, if it stands there free -/
def freeAt : Wr × List (Str × Nat) → Option Str
  | (nm z, e) => if find z e = none then some z else none
  | _ => none
theorem free_zip : ∀ (w : Wr) (o : Nat) (e : List (Str × Nat)), (w.subs.zip (w.envs o e)).filterMap freeAt = w.frL (e.map (·.1))
  | nm z, o, e => by
    show ([(nm z, e)] : List _).filterMap freeAt = if z ∈ e.map (·.1) then [] else [z]
    by_cases c : z ∈ e.map (·.1)
    · rw [if_pos c]
      have : find z e ≠ none := fun h => (find_none.mp h) c
      simp [freeAt, this]
    · rw [if_neg c]
      have : find z e = none := find_none.mpr c
      simp [freeAt, this]
  | of x b, o, e => by
    show ((of x b, e) :: b.subs.zip (b.envs (o + 1) ((x, o) :: e))).filterMap freeAt = b.frL (x :: e.map (·.1))
    rw [List.filterMap_cons_none rfl, free_zip b]
    rfl
  | to a b, o, e => by
    show ((to a b, e) :: (a.subs ++ b.subs).zip (a.envs (o + 1) e ++ b.envs (o + 1 + a.sg) e)).filterMap freeAt = a.frL (e.map (·.1)) ++ b.frL (e.map (·.1))
    rw [List.filterMap_cons_none rfl, List.zip_append (by rw [subs_len, envs_len]), List.filterMap_append, free_zip a, free_zip b]
/-- the places of the free names -/
def frIx (w : Wr) : List Nat := (List.range w.sg).filter fun i => match w.subs[i]? with
  | some (nm z) => decide (find z (w.env i) = none)
  | _ => false
def nmAt (w : Wr) (i : Nat) : Str := match w.subs[i]? with
  | some (nm z) => z
  | some (of x _) => x
  | _ => ""
theorem frIx_names (w : Wr) : (w.frIx).map w.nmAt = w.frL [] := by
  have e := free_zip w 0 []
  rw [← show w.frL ([] : List (Str × Nat)).unzip.1 = w.frL [] from rfl]
  show _ = w.frL (([] : List (Str × Nat)).map (·.1))
  rw [← e]
  have key : ∀ k, k ≤ w.sg → (((List.range k).filter fun i => match w.subs[i]? with
      | some (nm z) => decide (find z (w.env i) = none)
      | _ => false).map w.nmAt) = ((w.subs.zip (w.envs 0 [])).take k).filterMap freeAt := by
    intro k
    induction k with
    | zero => intro _; rfl
    | succ k ih =>
      intro hk
      rw [List.range_succ, List.filter_append, List.map_append, ih (by omega), List.take_add_one, List.filterMap_append]
      congr 1
      have hs : w.subs[k]? = some (w.subs[k]'(by rw [subs_len]; omega)) := List.getElem?_eq_getElem _
      have he := env_eq (w := w) (i := k) (by omega)
      have hz : (w.subs.zip (w.envs 0 []))[k]? = some (w.subs[k]'(by rw [subs_len]; omega), w.env k) := by
        rw [List.getElem?_zip_eq_some]
        exact ⟨hs, he⟩
      rw [hz]
      generalize w.subs[k]'(by rw [subs_len]; omega) = s at hs
      show (([k] : List Nat).filter _).map _ = ([(s, w.env k)] : List _).filterMap freeAt
      cases s with
      | nm z =>
        by_cases c : find z (w.env k) = none
        · rw [List.filter_cons_of_pos (by simp [hs, c])]
          simp [nmAt, hs, freeAt, c]
        · rw [List.filter_cons_of_neg (by simp [hs, c])]
          simp [freeAt, c]
      | of x b =>
        rw [List.filter_cons_of_neg (by simp [hs])]
        rfl
      | to a b =>
        rw [List.filter_cons_of_neg (by simp [hs])]
        rfl
  have h := key w.sg (Nat.le_refl _)
  rw [List.take_of_length_le (by rw [List.length_zip, subs_len, envs_len]; omega)] at h
  exact h
/-- the names of the free ones, each once, as they are met -/
theorem frIx_fold (w : Wr) : (w.frIx.map w.nmAt).foldl ins [] = w.fr := by
  rw [frIx_names, fold_frL, go_nil]
end Wr
end TG
/-! codes of counted writings; what is put in, sign by sign -/
namespace TG
open PySem PySem.Spec L2
open PyProof.Rows hiding St
/-- a code: a text, or how far out the "of" is -/
abbrev Cd := Sum Str Nat
theorem not_of : okN ("of" : Str) = false := by decide +kernel
theorem not_to : okN ("to" : Str) = false := by decide +kernel
namespace Bt
def cd : Bt → List Cd
  | bd n => [.inr n]
  | fr z => [.inl z]
  | of b => .inl "of" :: b.cd
  | to a b => .inl "to" :: (a.cd ++ b.cd)
theorem cd_cut : ∀ {b c : Bt} {r t : List Cd}, b.all okN = true → c.all okN = true → b.cd ++ r = c.cd ++ t → b = c ∧ r = t
  | bd n, bd m, r, t, _, _, h => by cases h; exact ⟨rfl, rfl⟩
  | fr z, fr y, r, t, _, _, h => by cases h; exact ⟨rfl, rfl⟩
  | of b, of c, r, t, hb, hc, h => by
    injection h with _ h
    obtain ⟨e1, e2⟩ := cd_cut (b := b) (c := c) hb hc h
    exact ⟨congrArg of e1, e2⟩
  | to a b, to c d, r, t, hb, hc, h => by
    injection h with _ h
    have h : (a.cd ++ b.cd) ++ r = (c.cd ++ d.cd) ++ t := h
    rw [List.append_assoc, List.append_assoc] at h
    obtain ⟨e1, h⟩ := cd_cut (b := a) (c := c) (Bool.and_eq_true_iff.mp hb).1 (Bool.and_eq_true_iff.mp hc).1 h
    obtain ⟨e2, h⟩ := cd_cut (b := b) (c := d) (Bool.and_eq_true_iff.mp hb).2 (Bool.and_eq_true_iff.mp hc).2 h
    exact ⟨by rw [e1, e2], h⟩
  | bd n, fr z, _, _, _, _, h => by cases h
  | bd n, of _, _, _, _, _, h => by cases h
  | bd n, to _ _, _, _, _, _, h => by cases h
  | fr z, bd _, _, _, _, _, h => by cases h
  | of _, bd _, _, _, _, _, h => by cases h
  | to _ _, bd _, _, _, _, _, h => by cases h
  | fr z, of _, _, _, hb, _, h => by
    injection h with h _
    injection h with h
    subst h
    exact absurd (not_of.symm.trans hb) Bool.false_ne_true
  | fr z, to _ _, _, _, hb, _, h => by
    injection h with h _
    injection h with h
    subst h
    exact absurd (not_to.symm.trans hb) Bool.false_ne_true
  | of _, fr z, _, _, _, hb, h => by
    injection h with h _
    injection h with h
    subst h
    exact absurd (not_of.symm.trans hb) Bool.false_ne_true
  | to _ _, fr z, _, _, _, hb, h => by
    injection h with h _
    injection h with h
    subst h
    exact absurd (not_to.symm.trans hb) Bool.false_ne_true
  | of _, to _ _, _, _, _, _, h => by
    injection h with h _
    injection h with h
    exact absurd h (by decide +kernel)
  | to _ _, of _, _, _, _, _, h => by
    injection h with h _
    injection h with h
    exact absurd h (by decide +kernel)
theorem cd_inj {b c : Bt} (hb : b.all okN = true) (hc : c.all okN = true) (h : b.cd = c.cd) : b = c :=
  (cd_cut (r := []) (t := []) hb hc (by rw [List.append_nil, List.append_nil]; exact h)).1
end Bt
namespace Wr
/-- a sign's code, by what is around it -/
def codeAt : Wr × List (Str × Nat) → Cd
  | (nm z, e) => if z ∈ e.map (·.1) then .inr ((e.map (·.1)).idxOf z) else .inl z
  | (of _ _, _) => .inl "of"
  | (to _ _, _) => .inl "to"
theorem code_zip : ∀ (w : Wr) (o : Nat) (e : List (Str × Nat)), (w.subs.zip (w.envs o e)).map codeAt = (w.cnt (e.map (·.1))).cd
  | nm z, o, e => by
    show [codeAt (nm z, e)] = (if z ∈ e.map (·.1) then Bt.bd ((e.map (·.1)).idxOf z) else .fr z).cd
    unfold codeAt
    by_cases c : z ∈ e.map (·.1)
    · simp only [if_pos c]; rfl
    · simp only [if_neg c]; rfl
  | of x b, o, e => by
    show Sum.inl ("of" : Str) :: (b.subs.zip (b.envs (o + 1) ((x, o) :: e))).map codeAt = Sum.inl ("of" : Str) :: (b.cnt (x :: e.map (·.1))).cd
    rw [code_zip b]
    rfl
  | to a b, o, e => by
    show Sum.inl ("to" : Str) :: ((a.subs ++ b.subs).zip (a.envs (o + 1) e ++ b.envs (o + 1 + a.sg) e)).map codeAt = Sum.inl ("to" : Str) :: ((a.cnt (e.map (·.1))).cd ++ (b.cnt (e.map (·.1))).cd)
    rw [List.zip_append (by rw [subs_len, envs_len]), List.map_append, code_zip a, code_zip b]
theorem code_list (w : Wr) (xs : List Cd) (hl : xs.length = w.sg) (h : ∀ i s, w.subs[i]? = some s → xs[i]? = some (codeAt (s, w.env i))) : xs = (w.cnt []).cd := by
  have e := code_zip w 0 []
  show xs = (w.cnt (([] : List (Str × Nat)).map (·.1))).cd
  rw [← e]
  refine List.ext_getElem? fun i => ?_
  rw [List.getElem?_map]
  by_cases c : i < w.sg
  · have hs : w.subs[i]? = some (w.subs[i]'(by rw [subs_len]; exact c)) := List.getElem?_eq_getElem _
    rw [h i _ hs]
    have hz : (w.subs.zip (w.envs 0 []))[i]? = some (w.subs[i]'(by rw [subs_len]; exact c), w.env i) := by
      rw [List.getElem?_zip_eq_some]
      exact ⟨hs, env_eq c⟩
    rw [hz]
    rfl
  · rw [List.getElem?_eq_none (by omega), List.getElem?_eq_none (by rw [List.length_zip, subs_len, envs_len]; omega)]
    rfl
/-- the depths of a row, in its order -/
def deps : Wr → Nat → List Nat
  | nm _, d => [d]
  | of _ b, d => d :: b.deps (d + 1)
  | to a b, d => d :: (a.deps d ++ b.deps d)
theorem deps_envs : ∀ (w : Wr) (o : Nat) (e : List (Str × Nat)), (w.envs o e).map List.length = w.deps e.length
  | nm _, _, _ => rfl
  | of x b, o, e => by
    show e.length :: (b.envs (o + 1) ((x, o) :: e)).map List.length = e.length :: b.deps (e.length + 1)
    rw [deps_envs b]
    rfl
  | to a b, o, e => by
    show e.length :: (a.envs (o + 1) e ++ b.envs (o + 1 + a.sg) e).map List.length = e.length :: (a.deps e.length ++ b.deps e.length)
    rw [List.map_append, deps_envs a, deps_envs b]
theorem deps_at {w : Wr} {i : Nat} (h : i < w.sg) : (w.deps 0)[i]? = some (w.env i).length := by
  have e := deps_envs w 0 []
  rw [show w.deps 0 = w.deps ([] : List (Str × Nat)).length from rfl, ← e, List.getElem?_map, env_eq h]
  rfl
theorem deps_len (w : Wr) (d : Nat) : (w.deps d).length = w.sg := by
  induction w generalizing d with
  | nm _ => rfl
  | of _ b ih => show (b.deps _).length + 1 = _; rw [ih]; rfl
  | to a b i1 i2 => show (a.deps _ ++ b.deps _).length + 1 = _; rw [List.length_append, i1, i2]; rfl
/-! ### other names for some of the "of"s, and a writing in the place of a free name -/
def nu (ρ : Nat → Option Str) (j : Nat) (x : Str) : Str := (ρ j).getD x
def ren (ρ : Nat → Option Str) (nam : Str) (t : Wr) : Wr → Nat → List (Str × Nat) → Wr
  | nm z, _, e => match find z e with
    | none => if z = nam then t else nm z
    | some j => nm (nu ρ j z)
  | of x b, o, e => of (nu ρ o x) (ren ρ nam t b (o + 1) ((x, o) :: e))
  | to a b, o, e => to (ren ρ nam t a (o + 1) e) (ren ρ nam t b (o + 1 + a.sg) e)
/-- all names that stand in it, of "of"s too -/
def nms : Wr → List Str
  | nm z => [z]
  | of x b => x :: b.nms
  | to a b => a.nms ++ b.nms
theorem fr_nms : ∀ {w : Wr} {z : Str}, z ∈ w.fr → z ∈ w.nms
  | nm z, y, h => h
  | of x b, y, h => List.mem_cons_of_mem _ (fr_nms (List.mem_filter.mp h).1)
  | to a b, y, h => by
    rcases List.mem_append.mp h with h | h
    · exact List.mem_append_left _ (fr_nms h)
    · exact List.mem_append_right _ (fr_nms (List.mem_filter.mp h).1)
theorem cnt_closed : ∀ (w : Wr) (ar br : List Str), (∀ z ∈ w.fr, z ∉ br) → w.cnt (ar ++ br) = w.cnt ar
  | nm z, ar, br, h => by
    have hz := h z (List.mem_singleton_self z)
    show (if z ∈ ar ++ br then Bt.bd ((ar ++ br).idxOf z) else .fr z) = if z ∈ ar then Bt.bd (ar.idxOf z) else .fr z
    by_cases c : z ∈ ar
    · rw [if_pos c, if_pos (List.mem_append_left _ c), List.idxOf_append, if_pos c]
    · rw [if_neg c, if_neg fun k => (List.mem_append.mp k).elim c hz]
  | of x b, ar, br, h => by
    show Bt.of (b.cnt (x :: (ar ++ br))) = Bt.of (b.cnt (x :: ar))
    congr 1
    by_cases c : x ∈ br
    · -- a name of br that is x: x stands ahead of it anyway
      have key : ∀ (w : Wr) (pre ar br : List Str), (∀ z ∈ w.fr, z ∈ br → z ∈ pre) → w.cnt (pre ++ ar ++ br) = w.cnt (pre ++ ar) := by
        intro w
        induction w with
        | nm z =>
          intro pre ar br h
          have hz := h z (List.mem_singleton_self z)
          show (if z ∈ pre ++ ar ++ br then Bt.bd ((pre ++ ar ++ br).idxOf z) else .fr z) = if z ∈ pre ++ ar then Bt.bd ((pre ++ ar).idxOf z) else .fr z
          by_cases c : z ∈ pre ++ ar
          · rw [if_pos c, if_pos (List.mem_append_left _ c), List.idxOf_append, if_pos c]
          · rw [if_neg c, if_neg fun k => (List.mem_append.mp k).elim c fun q => c (List.mem_append_left _ (hz q))]
        | of y d ih =>
          intro pre ar br h
          show Bt.of (d.cnt (y :: (pre ++ ar ++ br))) = Bt.of (d.cnt (y :: (pre ++ ar)))
          congr 1
          refine ih (y :: pre) ar br fun z hz hb => ?_
          by_cases q : z = y
          · exact List.mem_cons.mpr (.inl q)
          · exact List.mem_cons_of_mem _ (h z (List.mem_filter.mpr ⟨hz, decide_eq_true q⟩) hb)
        | to a b i1 i2 =>
          intro pre ar br h
          show Bt.to _ _ = Bt.to _ _
          congr 1
          · exact i1 pre ar br fun z hz hb => h z (List.mem_append_left _ hz) hb
          · refine i2 pre ar br fun z hz hb => ?_
            by_cases q : z ∈ a.fr
            · exact h z (List.mem_append_left _ q) hb
            · exact h z (List.mem_append_right _ (List.mem_filter.mpr ⟨hz, decide_eq_true q⟩)) hb
      refine key b [x] ar br fun z hz hb => ?_
      by_cases q : z = x
      · exact List.mem_singleton.mpr q
      · exact absurd hb (h z (List.mem_filter.mpr ⟨hz, decide_eq_true q⟩))
    · refine cnt_closed b (x :: ar) br fun z hz hb => ?_
      by_cases q : z = x
      · exact c (q ▸ hb)
      · exact h z (List.mem_filter.mpr ⟨hz, decide_eq_true q⟩) hb
  | to a b, ar, br, h => by
    show Bt.to _ _ = Bt.to _ _
    rw [cnt_closed a ar br fun z hz => h z (List.mem_append_left _ hz), cnt_closed b ar br fun z hz => ?_]
    by_cases q : z ∈ a.fr
    · exact h z (List.mem_append_left _ q)
    · exact h z (List.mem_append_right _ (List.mem_filter.mpr ⟨hz, decide_eq_true q⟩))
/-- the names of those around, as they are told anew -/
def nue (ρ : Nat → Option Str) (e : List (Str × Nat)) : List Str := e.map fun p => nu ρ p.2 p.1
/-- ρ gives new names: unlike ones, that stand nowhere in these -/
structure New (ρ : Nat → Option Str) (ns : List Str) : Prop where
  out : ∀ j y, ρ j = some y → y ∉ ns
  inj : ∀ j k y, ρ j = some y → ρ k = some y → j = k
theorem find_mem {z : Str} : ∀ {e : List (Str × Nat)} {j : Nat}, find z e = some j → j ∈ e.map (·.2)
  | [], _, h => nomatch h
  | (x, k) :: e, j, h => by
    have h : (if x = z then some k else find z e) = some j := h
    by_cases c : x = z
    · rw [if_pos c] at h; cases h; exact List.mem_cons_self
    · rw [if_neg c] at h; exact List.mem_cons_of_mem _ (find_mem h)
theorem nue_find {ρ : Nat → Option Str} {ns : List Str} (N : New ρ ns) {z : Str} (hz : z ∈ ns) : ∀ {e : List (Str × Nat)}, (e.map (·.2)).Nodup → (∀ p ∈ e, p.1 ∈ ns) →
    (find z e = none → z ∉ nue ρ e) ∧ ∀ j, find z e = some j → nu ρ j z ∈ nue ρ e ∧ (nue ρ e).idxOf (nu ρ j z) = (e.map (·.1)).idxOf z
  | [], _, _ => ⟨fun _ => List.not_mem_nil, fun j h => nomatch h⟩
  | (x, k) :: e, hd, hn => by
    have hd2 := List.nodup_cons.mp (show (k :: e.map (·.2)).Nodup from hd)
    obtain ⟨i1, i2⟩ := nue_find N hz hd2.2 fun p hp => hn p (List.mem_cons_of_mem _ hp)
    have hx : x ∈ ns := hn _ List.mem_cons_self
    by_cases c : x = z
    · subst c
      have f : find x ((x, k) :: e) = some k := if_pos rfl
      refine ⟨fun h => absurd (f.symm.trans h) (fun q => nomatch q), fun j h => ?_⟩
      rw [f] at h
      cases h
      refine ⟨List.mem_cons_self, ?_⟩
      show (nu ρ k x :: nue ρ e).idxOf (nu ρ k x) = (x :: e.map (·.1)).idxOf x
      rw [List.idxOf_cons_self, List.idxOf_cons_self]
    · have f : find z ((x, k) :: e) = find z e := if_neg c
      have nz : nu ρ k x ≠ z := by
        unfold nu
        cases q : ρ k with
        | none => exact c
        | some y => exact fun h => N.out k y q ((show y = z from h) ▸ hz)
      refine ⟨fun h => ?_, fun j h => ?_⟩
      · rw [f] at h
        intro hm
        rcases List.mem_cons.mp hm with hm | hm
        · exact nz hm.symm
        · exact i1 h hm
      · rw [f] at h
        obtain ⟨m, d⟩ := i2 j h
        have ne : nu ρ k x ≠ nu ρ j z := by
          intro h2
          have hjk : j ≠ k := fun h3 => hd2.1 (h3 ▸ find_mem h)
          unfold nu at h2
          cases q : ρ k with
          | none =>
            rw [q] at h2
            cases q2 : ρ j with
            | none => rw [q2] at h2; exact c h2
            | some y => rw [q2] at h2; exact N.out j y q2 ((show x = y from h2) ▸ hx)
          | some y =>
            rw [q] at h2
            cases q2 : ρ j with
            | none => rw [q2] at h2; exact N.out k y q ((show y = z from h2) ▸ hz)
            | some y2 =>
              rw [q2] at h2
              have h2 : y = y2 := h2
              exact hjk (N.inj j k y2 q2 (h2 ▸ q))
        refine ⟨List.mem_cons_of_mem _ m, ?_⟩
        show (nu ρ k x :: nue ρ e).idxOf (nu ρ j z) = (x :: e.map (·.1)).idxOf z
        rw [List.idxOf_cons, List.idxOf_cons, show (nu ρ k x == nu ρ j z) = false by simpa using ne, show (x == z) = false by simpa using c, cond_false, cond_false, d]
/-- what is told so is, counted outwards, what is put in -/
theorem ren_cnt {ρ : Nat → Option Str} {ns : List Str} (N : New ρ ns) {nam : Str} {t : Wr} (hn : nam ∈ ns) : ∀ (w : Wr) (o : Nat) (e : List (Str × Nat)), (∀ z ∈ w.nms, z ∈ ns) → (e.map (·.2)).Nodup → (∀ p ∈ e, p.1 ∈ ns ∧ p.2 < o) →
    (∀ z, nam ∈ w.frL (e.map (·.1)) → z ∈ t.fr → z ∉ nue ρ e) →
    (∀ i x b l, w.subs[i]? = some (of x b) → (w.envs o e)[i]? = some l → nam ∈ b.frL (x :: l.map (·.1)) → nu ρ (o + i) x ∉ t.fr) →
    (ren ρ nam t w o e).cnt (nue ρ e) = (w.cnt (e.map (·.1))).sub nam (t.cnt [])
  | nm z, o, e, hw, hd, he, h1, h2 => by
    have hz := hw z (List.mem_singleton_self z)
    obtain ⟨k1, k2⟩ := nue_find N hz hd fun p hp => (he p hp).1
    show (match find z e with | none => if z = nam then t else nm z | some j => nm (nu ρ j z)).cnt (nue ρ e) = (if z ∈ e.map (·.1) then Bt.bd ((e.map (·.1)).idxOf z) else .fr z).sub nam (t.cnt [])
    cases q : find z e with
    | none =>
      have q2 := find_none.mp q
      rw [if_neg q2]
      show (if z = nam then t else nm z).cnt (nue ρ e) = if z = nam then t.cnt [] else .fr z
      by_cases c : z = nam
      · rw [if_pos c, if_pos c]
        have hm : nam ∈ (nm z).frL (e.map (·.1)) := by
          show nam ∈ if z ∈ e.map (·.1) then [] else [z]
          rw [if_neg q2, c]
          exact List.mem_singleton_self _
        exact cnt_closed t [] (nue ρ e) fun y hy => h1 y hm hy
      · rw [if_neg c, if_neg c]
        exact if_neg (k1 q)
    | some j =>
      obtain ⟨m, d⟩ := k2 j q
      have q2 : z ∈ e.map (·.1) := by
        by_cases c : z ∈ e.map (·.1)
        · exact c
        · rw [find_none.mpr c] at q; cases q
      rw [if_pos q2]
      show (if nu ρ j z ∈ nue ρ e then Bt.bd ((nue ρ e).idxOf (nu ρ j z)) else _) = Bt.bd _
      rw [if_pos m, d]
  | of x b, o, e, hw, hd, he, h1, h2 => by
    show Bt.of ((ren ρ nam t b (o + 1) ((x, o) :: e)).cnt (nue ρ ((x, o) :: e))) = Bt.of ((b.cnt (((x, o) :: e).map (·.1))).sub nam (t.cnt []))
    congr 1
    refine ren_cnt N hn b (o + 1) ((x, o) :: e) (fun z hz => hw z (List.mem_cons_of_mem _ hz)) ?_ ?_ ?_ ?_
    · refine List.nodup_cons.mpr ⟨fun hm => ?_, hd⟩
      obtain ⟨p, hp, ep⟩ := List.mem_map.mp hm
      have h3 := (he p hp).2
      have h4 : p.2 = o := ep
      omega
    · intro p hp
      rcases List.mem_cons.mp hp with rfl | hp
      · exact ⟨hw x List.mem_cons_self, Nat.lt_succ_self _⟩
      · exact ⟨(he p hp).1, Nat.lt_succ_of_lt (he p hp).2⟩
    · intro z hz ht hm
      have hz : nam ∈ b.frL (x :: e.map (·.1)) := hz
      rcases List.mem_cons.mp hm with hm | hm
      · have := h2 0 x b e rfl rfl hz
        rw [Nat.add_zero] at this
        exact this ((show z = nu ρ o x from hm) ▸ ht)
      · exact h1 z hz ht hm
    · intro i y c l hi hl hu
      rw [show o + 1 + i = o + (i + 1) by omega]
      exact h2 (i + 1) y c l hi hl hu
  | to a b, o, e, hw, hd, he, h1, h2 => by
    show Bt.to _ _ = Bt.to _ _
    congr 1
    · refine ren_cnt N hn a (o + 1) e (fun z hz => hw z (List.mem_append_left _ hz)) hd (fun p hp => ⟨(he p hp).1, Nat.lt_succ_of_lt (he p hp).2⟩) (fun z hz => h1 z (List.mem_append_left _ hz)) ?_
      intro i y c l hi hl hu
      rw [show o + 1 + i = o + (i + 1) by omega]
      have f := subs_lt hi
      refine h2 (i + 1) y c l ?_ ?_ hu
      · show (a.subs ++ b.subs)[i]? = _
        rw [List.getElem?_append_left (by rw [subs_len]; exact f)]
        exact hi
      · show (a.envs (o + 1) e ++ b.envs (o + 1 + a.sg) e)[i]? = _
        rw [List.getElem?_append_left (by rw [envs_len]; exact f)]
        exact hl
    · refine ren_cnt N hn b (o + 1 + a.sg) e (fun z hz => hw z (List.mem_append_right _ hz)) hd (fun p hp => ⟨(he p hp).1, by have := (he p hp).2; omega⟩) (fun z hz => h1 z (List.mem_append_right _ hz)) ?_
      intro i y c l hi hl hu
      rw [show o + 1 + a.sg + i = o + (a.sg + i + 1) by omega]
      refine h2 (a.sg + i + 1) y c l ?_ ?_ hu
      · show (a.subs ++ b.subs)[a.sg + i]? = _
        rw [List.getElem?_append_right (by rw [subs_len]; omega), subs_len, Nat.add_sub_cancel_left]
        exact hi
      · show (a.envs (o + 1) e ++ b.envs (o + 1 + a.sg) e)[a.sg + i]? = _
        rw [List.getElem?_append_right (by rw [envs_len]; omega), envs_len, Nat.add_sub_cancel_left]
        exact hl
end Wr
end TG
/-! the package's small defs: what they promise, wherever they stand -/
namespace TG
open PySem PySem.Spec L2
open PyProof.Rows hiding St
/-! ### values by their types -/
def tyN : List String := ["NoneType", "bool", "int", "str", "list", "tuple", "dict"]
def HasTy (K : PySem.W.Frag) (H : Hp) (v : V) (n : String) : Prop := TyX K H v (.type n) ∧ n ∈ tyN
theorem rd_lst {H H' : Hp} (s : Same H H') {a : Addr} {o : HO} (h : H a = some o) : H' a = some o := s _ _ h
theorem tyx_same {K : PySem.W.Frag} {H H' : Hp} {v : V} {t : Value} (h : TyX K H v t) (s : Same H H') : TyX K H' v t := by
  cases h with
  | base b =>
    cases b with
    | non => exact .base .non
    | bl x => exact .base (.bl x)
    | int i => exact .base (.int i)
    | str x => exact .base (.str x)
    | flt x => exact .base (.flt x)
    | lst e => exact .base (.lst (s _ _ e))
    | frz e => exact .base (.frz (s _ _ e))
    | tup e => exact .base (.tup (s _ _ e))
    | dK e => exact .base (.dK (s _ _ e))
    | dT e => exact .base (.dT (s _ _ e))
    | ins e cl ha hn htk hm => exact .base (.ins (s _ _ e) cl ha hn htk hm)
  | byt b => exact .byt b
  | set e => exact .set (s _ _ e)
  | kList e c => exact .kList e c
  | kTuple e c => exact .kTuple e c
  | kDict e c => exact .kDict e c
  | fTuple e => exact .fTuple (s _ _ e)
  | fDict e => exact .fDict (s _ _ e)
theorem HasTy.same {K : PySem.W.Frag} {H H' : Hp} {v : V} {n : String} (h : HasTy K H v n) (s : Same H H') : HasTy K H' v n := ⟨tyx_same h.1 s, h.2⟩
theorem HasTy.int {K : PySem.W.Frag} {H : Hp} (i : Int) : HasTy K H (.int i) "int" := ⟨.base (.int i), by decide⟩
theorem HasTy.str {K : PySem.W.Frag} {H : Hp} (z : Str) : HasTy K H (.str z) "str" := ⟨.base (.str z), by decide⟩
theorem HasTy.non {K : PySem.W.Frag} {H : Hp} : HasTy K H .non "NoneType" := ⟨.base .non, by decide⟩
theorem HasTy.bl {K : PySem.W.Frag} {H : Hp} (b : Bool) : HasTy K H (.bl b) "bool" := ⟨.base (.bl b), by decide⟩
theorem HasTy.lst {K : PySem.W.Frag} {H : Hp} {a : Addr} {xs : List V} (e : H a = some (.lst xs)) : HasTy K H (.ref a) "list" := ⟨.base (.lst e), by decide⟩
theorem HasTy.tup {K : PySem.W.Frag} {H : Hp} {a : Addr} {xs : List V} (e : H a = some (.tup xs)) : HasTy K H (.ref a) "tuple" := ⟨.base (.tup e), by decide⟩
theorem HasTy.dct {K : PySem.W.Frag} {H : Hp} {a : Addr} {kvs : List (Key × V)} (e : H a = some (.dK kvs)) : HasTy K H (.ref a) "dict" := ⟨.base (.dK e), by decide⟩
def intV : V → Bool
  | .int _ => true
  | _ => false
def strV : V → Bool
  | .str _ => true
  | _ => false
theorem HasTy.isInt {K : PySem.W.Frag} {H : Hp} {v : V} {n : String} (h : HasTy K H v n) : (n == "int") = intV v := by
  obtain ⟨h, _⟩ := h
  generalize e : Value.type n = t at h
  cases h with
  | base b => cases b <;> first | (cases e; rfl) | cases e
  | _ => first | (cases e; rfl) | cases e
theorem HasTy.isStr {K : PySem.W.Frag} {H : Hp} {v : V} {n : String} (h : HasTy K H v n) : (n == "str") = strV v := by
  obtain ⟨h, _⟩ := h
  generalize e : Value.type n = t at h
  cases h with
  | base b => cases b <;> first | (cases e; rfl) | cases e
  | _ => first | (cases e; rfl) | cases e
theorem kit_all {c : String} {g : String → Bool} (h : tyN.all (fun n => kitB n c == some (g n)) = true) {K : PySem.W.Frag} {n : String} (hn : n ∈ tyN) : PySem.W.kitOne K (.type n) (.type c) = some (g n) :=
  kit_ty (eq_of_beq (List.all_eq_true.mp h n hn))
theorem kit_int {K : PySem.W.Frag} {n : String} (hn : n ∈ tyN) : PySem.W.kitOne K (.type n) (.type "int") = some (n == "int" || n == "bool") := kit_all (g := fun n => n == "int" || n == "bool") (by decide +kernel) hn
theorem kit_bool {K : PySem.W.Frag} {n : String} (hn : n ∈ tyN) : PySem.W.kitOne K (.type n) (.type "bool") = some (n == "bool") := kit_all (g := fun n => n == "bool") (by decide +kernel) hn
theorem kit_str {K : PySem.W.Frag} {n : String} (hn : n ∈ tyN) : PySem.W.kitOne K (.type n) (.type "str") = some (n == "str") := kit_all (g := fun n => n == "str") (by decide +kernel) hn
theorem kit_list {K : PySem.W.Frag} {n : String} (hn : n ∈ tyN) : PySem.W.kitOne K (.type n) (.type "list") = some (n == "list") := kit_all (g := fun n => n == "list") (by decide +kernel) hn
theorem kit_tuple {K : PySem.W.Frag} {n : String} (hn : n ∈ tyN) : PySem.W.kitOne K (.type n) (.type "tuple") = some (n == "tuple") := kit_all (g := fun n => n == "tuple") (by decide +kernel) hn
def loB (i : Int) : V → Bool
  | .int a => decide (a ≤ i)
  | _ => true
def hiB (i : Int) : V → Bool
  | .int b => decide (i ≤ b)
  | _ => true
def withinV : V → V → V → Bool
  | .int i, lo, hi => loB i lo && hiB i hi
  | _, _, _ => false
def OptI (v : V) : Prop := v = .non ∨ ∃ i, v = .int i
def spIsInt (K : PySem.W.Frag) : Sp := fun vs H Q _ => ∃ (v : V) (n : String), vs = [v] ∧ HasTy K H v n ∧ Q (.bl (intV v)) H
def spWithin (K : PySem.W.Frag) : Sp := fun vs H Q _ => ∃ (v lo hi : V) (n : String), vs = [v, lo, hi] ∧ HasTy K H v n ∧ OptI lo ∧ OptI hi ∧ Q (.bl (withinV v lo hi)) H
theorem kit_lt {K : PySem.W.Frag} {n : String} (hn : n ∈ tyN) : PySem.W.kitAny K (.type n) [.type "list", .type "tuple"] = some (n == "list" || n == "tuple") := by
  by_cases e : n = "list"
  · subst e
    exact kitAny_cons (b := true) (kit_list hn) (fun z => nomatch z) (fun _ => rfl)
  · have h1 : (n == "list") = false := by simpa using e
    refine kitAny_cons (b := false) (by rw [kit_list hn, h1]) (fun _ => ?_) (fun z => nomatch z)
    rw [h1, Bool.false_or]
    by_cases e2 : n = "tuple"
    · subst e2
      exact kitAny_cons (b := true) (kit_tuple hn) (fun z => nomatch z) (fun _ => rfl)
    · have h2 : (n == "tuple") = false := by simpa using e2
      exact kitAny_cons (b := false) (by rw [kit_tuple hn, h2]) (fun _ => by rw [h2]; exact kitAny_nil) (fun z => nomatch z)
def numV (v : V) : Bool := withinV v (.int 0) .non
def spNums (K : PySem.W.Frag) : Sp := fun vs H Q _ => ∃ (v : V) (n : String), vs = [v] ∧ HasTy K H v n ∧
  ((n ≠ "list" ∧ n ≠ "tuple" ∧ ∀ H', Same H H' → Q (.bl false) H') ∨
   ∃ (a : Addr) (xs : List V), v = .ref a ∧ ((n = "list" ∧ H a = some (.lst xs)) ∨ (n = "tuple" ∧ H a = some (.tup xs))) ∧ (∀ x ∈ xs, ∃ m, HasTy K H x m) ∧ xs.length ≤ 1000 ∧ ∀ H', Same H H' → Q (.bl (xs.all numV)) H')
def letC (c : Nat) : Bool := decide (c ∈ ("abcdefghijklmnopqrstuvwxyz" : Str).cps.toList)
def digC (c : Nat) : Bool := decide (c ∈ ("0123456789" : Str).cps.toList)
def headC : List Nat → Bool
  | c :: _ => letC c
  | [] => false
def nameB (z : Str) : Bool := !inV (.str z) [.str "of", .str "to"] && (withinV (.int (z.length : Int)) (.int 1) (.int 12) && (headC z.cps.toList && z.cps.toList.all fun c => letC c || digC c))
def nameV : V → Bool
  | .str z => nameB z
  | _ => false
def spName (K : PySem.W.Frag) : Sp := fun vs H Q _ => ∃ (v : V) (n : String), vs = [v] ∧ HasTy K H v n ∧ (∀ z, v = .str z → z.length ≤ 1000) ∧ ∀ H', Same H H' → Q (.bl (nameV v)) H'

theorem letC_eq (c : Nat) : letC c = decide (97 ≤ c ∧ c ≤ 122) := by
  unfold letC
  rw [show ("abcdefghijklmnopqrstuvwxyz" : Str).cps.toList = List.range' 97 26 from by decide +kernel]
  refine decide_eq_decide.mpr ?_
  rw [List.mem_range'_1]
  omega
theorem digC_eq (c : Nat) : digC c = decide (48 ≤ c ∧ c ≤ 57) := by
  unfold digC
  rw [show ("0123456789" : Str).cps.toList = List.range' 48 10 from by decide +kernel]
  refine decide_eq_decide.mpr ?_
  rw [List.mem_range'_1]
  omega
theorem nameB_ok (z : Str) : nameB z = okN z := by
  have e1 : (!inV (.str z) [.str "of", .str "to"]) = (decide (z ≠ "of") && decide (z ≠ "to")) := by
    rw [show ([V.str "of", V.str "to"] : List V) = (["of", "to"] : List Str).map V.str from rfl, inV_strs]
    rw [Bool.eq_iff_iff]
    simp
  have e2 : withinV (.int (z.length : Int)) (.int 1) (.int 12) = (decide (1 ≤ z.length) && decide (z.length ≤ 12)) := by
    show (decide ((1 : Int) ≤ (z.length : Int)) && decide ((z.length : Int) ≤ 12)) = _
    rw [Bool.eq_iff_iff]
    simp only [Bool.and_eq_true, decide_eq_true_eq]
    omega
  have e3 : (headC z.cps.toList && z.cps.toList.all fun c => letC c || digC c) = (match z.cps.toList with
      | [] => false
      | c :: r => decide (97 ≤ c ∧ c ≤ 122) && r.all fun c => decide (97 ≤ c ∧ c ≤ 122) || decide (48 ≤ c ∧ c ≤ 57)) := by
    cases z.cps.toList with
    | nil => rfl
    | cons c r =>
      show (letC c && ((letC c || digC c) && r.all fun c => letC c || digC c)) = (decide (97 ≤ c ∧ c ≤ 122) && r.all fun c => decide (97 ≤ c ∧ c ≤ 122) || decide (48 ≤ c ∧ c ≤ 57))
      rw [show (fun c => letC c || digC c) = fun c => decide (97 ≤ c ∧ c ≤ 122) || decide (48 ≤ c ∧ c ≤ 57) from funext fun c => by rw [letC_eq, digC_eq], letC_eq]
      cases decide (97 ≤ c ∧ c ≤ 122) <;> simp
  unfold nameB okN
  rw [e1, e2, e3, Bool.and_assoc, Bool.and_assoc, Bool.and_assoc, Bool.and_assoc, Bool.and_assoc]
  all_goals rfl
theorem HasTy.sqL {K : PySem.W.Frag} {H : Hp} {a : Addr} {xs : List V} (h : SqL K H a xs) : HasTy K H (.ref a) "list" := by
  rcases h with (e | ⟨o, e⟩) | ⟨o, its, n, h1, h2, _⟩
  · exact .lst e
  · exact ⟨.base (.frz e), by decide⟩
  · exact ⟨.kList h1 h2, by decide⟩
theorem HasTy.sqT {K : PySem.W.Frag} {H : Hp} {a : Addr} {xs : List V} (h : SqT K H a xs) : HasTy K H (.ref a) "tuple" := by
  rcases h with (e | ⟨o, e⟩) | ⟨o, its, n, h1, h2, _⟩
  · exact .tup e
  · exact ⟨.fTuple e, by decide⟩
  · exact ⟨.kTuple h1 h2, by decide⟩
/-- a value that is data has a type -/
def tyD : PyData → String
  | .none => "NoneType"
  | .bool _ => "bool"
  | .int _ => "int"
  | .str _ => "str"
  | .list _ => "list"
  | .tuple _ => "tuple"
  | .dict _ => "dict"
theorem HasTy.dp {K : PySem.W.Frag} {H : Hp} {v : V} {d : PyData} (h : Dp K H v d) : HasTy K H v (tyD d) := by
  cases h with
  | non => exact .non
  | bl b => exact .bl b
  | int i => exact .int i
  | str z => exact .str z
  | lst h _ => exact .sqL h
  | tup h _ => exact .sqT h
theorem sqL_same {K : PySem.W.Frag} {H H' : Hp} {a : Addr} {xs : List V} (h : SqL K H a xs) (s : Same H H') : SqL K H' a xs := by
  rcases h with h | h
  · rcases h with h | ⟨o, h⟩
    · exact .inl (.inl (s _ _ h))
    · exact .inl (.inr ⟨o, s _ _ h⟩)
  · exact .inr h
mutual
theorem dp_same {K : PySem.W.Frag} {H H' : Hp} (s : Same H H') : ∀ {d : PyData} {v : V}, Dp K H v d → Dp K H' v d
  | _, _, .non => .non
  | _, _, .bl b => .bl b
  | _, _, .int i => .int i
  | _, _, .str z => .str z
  | _, _, .lst h t => .lst (sqL_same h s) (dpAll_same s t)
  | _, _, .tup h t => .tup (sqT_same h s) (dpAll_same s t)
theorem dpAll_same {K : PySem.W.Frag} {H H' : Hp} (s : Same H H') : ∀ {ds : List PyData} {vs : List V}, DpAll K H vs ds → DpAll K H' vs ds
  | _, _, .nil => .nil
  | _, _, .cons h t => .cons (dp_same s h) (dpAll_same s t)
end
/-- the constants of the checks, as the top leaves them -/
structure Cn (K : PySem.W.Frag) (mg : Str → Option Value) : Prop where
  lets : ∃ t, mg "LETTERS" = some (.str "abcdefghijklmnopqrstuvwxyz" t)
  digs : ∃ t, mg "DIGITS" = some (.str "0123456789" t)
  long : ∃ t, mg "LONGEST_NAME" = some (.int 12 t)
  nons : ∃ a, mg "NO_NAMES" = some (.ref a) ∧ ∀ H, SqT K H a [.str "of", .str "to"]
/-- the words of the layouts -/
structure Lw (mg : Str → Option Value) : Prop where
  of_ : ∃ t, mg "OF" = some (.str "of" t)
  to_ : ∃ t, mg "TO" = some (.str "to" t)
  nm_ : ∃ t, mg "NAME" = some (.str "name" t)
/-- how many parts stand behind a word -/
structure Pw (K : PySem.W.Frag) (w : World) (mg : Str → Option Value) : Prop where
  at_ : ∃ a, mg "PARTS" = some (.ref a) ∧ KDic K w a ∧ (∃ t, PySem.W.nsIn K a "of" = some (some (.int 1 t))) ∧ (∃ t, PySem.W.nsIn K a "to" = some (some (.int 2 t))) ∧ (∃ t, PySem.W.nsIn K a ">" = some (some (.int 2 t))) ∧ PySem.W.nsIn K a "name" = some none
/-- the class of the layouts, as the top leaves it -/
structure LayC (K : PySem.W.Frag) (mg : Str → Option Value) (C fI : Addr) : Prop where
  cl : Cls K C
  nS : NoAttr K C "signs"
  nE : NoAttr K C "ends"
  nB : NoAttr K C "below"
  nA : NoAttr K C "around"
  nI : NoAttr K C "binders"
  mgC : mg "Layout" = some (.ref C)
  mk_ : Mk K C fI
end TG
namespace TF52
open PySem PySem.Spec L2 TG TA
open PyProof.Rows hiding St
abbrev sNums : Stmt := top 5
theorem scNums : FnScope ["value", "item"] ["value"] (defScope sNums) := ⟨rfl, rfl, rfl, by decide +kernel, rfl, by decide +kernel, by decide +kernel⟩
abbrev sInt : Stmt := top 3
abbrev sWithin : Stmt := top 4
theorem scInt : FnScope ["value"] ["value"] (defScope sInt) := ⟨rfl, rfl, rfl, by decide +kernel, rfl, by decide +kernel, by decide +kernel⟩
theorem scWithin : FnScope ["value", "least", "most"] ["value", "least", "most"] (defScope sWithin) := ⟨rfl, rfl, rfl, by decide +kernel, rfl, by decide +kernel, by decide +kernel⟩
section
variable {P : Program} {w : World} {K : PySem.W.Frag} {mg : Str → Option Value} {base : Heap} {f f1 f2 f3 : Addr} {fd fd1 fd2 fd3 : FuncData}
theorem ok_isint (F : Fun K "is_integer" "is_integer" sInt f fd) (T : Bn mg) : FnOk P w K mg base CX0 1 f fd ["value"] (spIsInt K) := by
  refine F.ok scInt (fun vs H Q E h => ?_) (fun cdv A outer s H vs Q E hr h => ?_)
  · obtain ⟨v, n, rfl, _⟩ := h
    rfl
  obtain ⟨v, n, rfl, hv, q⟩ := h
  refine ⟨_, (pss_one (ps_ret (pe_and (pe_callB call_isi (by rfl) T.b_isinstance (by decide +kernel) (pa_cons (pv 0) (pa_cons (pe_bltn (v := .ty "int") (u := .type "int") (by rfl) T.b_int (by decide +kernel) rfl) pa_nil))) (pe_one (pe_not (pe_callB call_isi (by rfl) T.b_isinstance (by decide +kernel) (pa_cons (pv 0) (pa_cons (pe_bltn (v := .ty "bool") (u := .type "bool") (by rfl) T.b_bool (by decide +kernel) rfl) pa_nil)))))))), ?_⟩
  refine ⟨_, rfl, v, _, _, _, _, rfl, .ty "int", hv.1, kit_int hv.2, _, rfl, ?_⟩
  rw [← hv.isInt] at q
  by_cases e : n = "int"
  · subst e
    exact iteT ⟨_, rfl, v, _, _, _, _, rfl, .ty "bool", hv.1, kit_bool hv.2, _, rfl, q⟩
  · by_cases e2 : n = "bool"
    · subst e2
      exact iteT ⟨_, rfl, v, _, _, _, _, rfl, .ty "bool", hv.1, kit_bool hv.2, _, rfl, q⟩
    · have h1 : (n == "int") = false := by simpa using e
      have h2 : (n == "bool") = false := by simpa using e2
      rw [h1] at q ⊢
      rw [h2]
      exact iteF q
theorem ok_within (F : Fun K "is_within" "is_within" sWithin f fd) (T : Bn mg) (D_is_integer : Df K mg "is_integer" sInt f1 fd1 ["value"]) (G_is_integer : FnOk P w K mg base CX0 1 f1 fd1 ["value"] (spIsInt K)) : FnOk P w K mg base CX0 2 f fd ["value", "least", "most"] (spWithin K) := by
  refine F.ok scWithin (fun vs H Q E h => ?_) (fun cdv A outer s H vs Q E hr h => ?_)
  · obtain ⟨v, lo, hi, n, rfl, _⟩ := h
    rfl
  obtain ⟨v, lo, hi, n, rfl, hv, hlo, hhi, q⟩ := h
  refine ⟨_, (pss_cons (ps_if (pt_not (pt_val (pe_cd D_is_integer G_is_integer hr (by decide) (pa_cons (pv 0) pa_nil)))) (pss_one (ps_ret pe_bl)) pss_nil)
      (pss_one (ps_ret (pe_and (pe_or (pe_cmp (pc_isN (pv 1)) rfl) (pe_one (pe_cmpR op_le (pv 1) (pv 0) (nomark _)))) (pe_one (pe_or (pe_cmp (pc_isN (pv 2)) rfl) (pe_one (pe_cmpR op_le (pv 0) (pv 2) (nomark _))))))))), ?_⟩
  refine ⟨_, rfl, v, n, rfl, hv, _, rfl, ?_⟩
  cases e : intV v with
  | false =>
    refine iteT ?_
    have : withinV v lo hi = false := by cases v <;> first | rfl | cases e
    rw [this] at q
    exact q
  | true =>
    refine iteF ?_
    obtain ⟨i, rfl⟩ : ∃ i, v = .int i := by cases v <;> first | exact ⟨_, rfl⟩ | cases e
    rcases hlo with rfl | ⟨a, rfl⟩
    · refine ⟨_, rfl, _, rfl, iteT ⟨_, rfl, iteT ?_⟩⟩
      rcases hhi with rfl | ⟨b, rfl⟩
      · exact ⟨_, rfl, _, rfl, iteT q⟩
      · exact ⟨_, rfl, _, rfl, iteF ⟨_, rfl, _, rfl, _, _, rfl, rfl, q⟩⟩
    · refine ⟨_, rfl, _, rfl, iteF ⟨_, rfl, _, rfl, _, _, rfl, rfl, _, rfl, ?_⟩⟩
      by_cases c : a ≤ i
      · rw [decide_eq_true c]
        have hq : withinV (.int i) (.int a) hi = hiB i hi := by
          show (decide (a ≤ i) && _) = _
          rw [decide_eq_true c, Bool.true_and]
        rw [hq] at q
        refine iteT ?_
        rcases hhi with rfl | ⟨b, rfl⟩
        · exact ⟨_, rfl, _, rfl, iteT q⟩
        · exact ⟨_, rfl, _, rfl, iteF ⟨_, rfl, _, rfl, _, _, rfl, rfl, q⟩⟩
      · rw [decide_eq_false c]
        have hq : withinV (.int i) (.int a) hi = false := by
          show (decide (a ≤ i) && _) = _
          rw [decide_eq_false c, Bool.false_and]
        rw [hq] at q
        exact iteF q
theorem ok_nums (F : Fun K "are_numbers" "are_numbers" sNums f fd) (T : Bn mg) (D_is_within : Df K mg "is_within" sWithin f1 fd1 ["value", "least", "most"]) (G_is_within : FnOk P w K mg base CX0 2 f1 fd1 ["value", "least", "most"] (spWithin K)) : FnOk P w K mg base CX0 3 f fd ["value"] (spNums K) := by
  refine F.ok scNums (fun vs H Q E h => ?_) (fun cdv A outer s H vs Q E hr h => ?_)
  · obtain ⟨v, n, rfl, _⟩ := h
    rfl
  obtain ⟨v, n, rfl, hv, h⟩ := h
  rcases h with ⟨n1, n2, q⟩ | ⟨a, xs, rfl, hk, hty, hl, q⟩
  · refine ⟨_, (pss_cons (ps_if (pt_not (pt_val (pe_callB call_isiT (by rfl) T.b_isinstance (by decide +kernel) (pa_cons (pv 0) (pa_cons (pe_tup (pa_cons (pe_bltn (v := .ty "list") (u := .type "list") (by rfl) T.b_list (by decide +kernel) rfl) (pa_cons (pe_bltn (v := .ty "tuple") (u := .type "tuple") (by rfl) T.b_tuple (by decide +kernel) rfl) pa_nil))) pa_nil))))) (pss_one (ps_ret pe_bl)) pss_nil)
      (pss_one (ps_ret (pe_callB (cr_all rfl) (by rfl) T.b_all (by decide +kernel) (pa_cons (pe_lc (own := [("item", 1)]) (g := (gName 1)) (by rfl) scNums.nd (pi_list (pv 0)) (blkOk_by (own := [("item", 1)]) (N := ["value", "item"]) (sc := defScope sNums) (by decide +kernel)) (fun _ _ _ _ _ => (pg_name (i := 1) scNums.nd rfl (.inl rfl))) (fun _ _ _ _ _ => pts_nil) (fun _ _ _ _ _ => (pe_cd D_is_within G_is_within hr (by decide) (pa_cons (pv 1) (pa_cons pe_int (pa_cons pe_non pa_nil)))))) pa_nil))))), ?_⟩
    refine ⟨_, rfl, (by show 2 ≤ sizeLine; decide), fun tp htp => ?_⟩
    have s1 := same_new (o := .tup [.ty "list", .ty "tuple"]) htp
    refine ⟨v, tp, _, _, [.type "list", .type "tuple"], _, rfl, upd_same, .cons (.ty _) (.cons (.ty _) .nil), tyx_same hv.1 s1, kit_lt hv.2, _, rfl, ?_⟩
    have h1 : (n == "list" || n == "tuple") = false := by simp [n1, n2]
    rw [h1]
    exact iteT (q _ s1)
  rcases hk with ⟨rfl, ha⟩ | ⟨rfl, ha⟩
  · refine ⟨_, (pss_cons (ps_if (pt_not (pt_val (pe_callB call_isiT (by rfl) T.b_isinstance (by decide +kernel) (pa_cons (pv 0) (pa_cons (pe_tup (pa_cons (pe_bltn (v := .ty "list") (u := .type "list") (by rfl) T.b_list (by decide +kernel) rfl) (pa_cons (pe_bltn (v := .ty "tuple") (u := .type "tuple") (by rfl) T.b_tuple (by decide +kernel) rfl) pa_nil))) pa_nil))))) (pss_one (ps_ret pe_bl)) pss_nil)
      (pss_one (ps_ret (pe_callB (cr_all rfl) (by rfl) T.b_all (by decide +kernel) (pa_cons (pe_lc (own := [("item", 1)]) (g := (gName 1)) (by rfl) scNums.nd (pi_list (pv 0)) (blkOk_by (own := [("item", 1)]) (N := ["value", "item"]) (sc := defScope sNums) (by decide +kernel)) (fun _ _ _ _ _ => (pg_name (i := 1) scNums.nd rfl (.inl rfl))) (fun _ _ _ _ _ => pts_nil) (fun _ _ _ _ _ => (pe_cd D_is_within G_is_within hr (by decide) (pa_cons (pv 1) (pa_cons pe_int (pa_cons pe_non pa_nil)))))) pa_nil))))), ?_⟩
    refine ⟨_, rfl, (by show 2 ≤ sizeLine; decide), fun tp htp => ?_⟩
    have s1 := same_new (o := .tup [.ty "list", .ty "tuple"]) htp
    refine ⟨.ref a, tp, _, _, [.type "list", .type "tuple"], _, rfl, upd_same, .cons (.ty _) (.cons (.ty _) .nil), tyx_same hv.1 s1, kit_lt hv.2, _, rfl, ?_⟩
    refine iteF ?_
    refine ⟨_, rfl, a, rfl, ⟨_, SqL.of (s1 _ _ ha)⟩, fun D hD => ?_⟩
    have hD0 := s1.free hD
    refine lc_list (K := K) (a := a) (xs := xs) (fun i H2 => Same H H2 ∧ H2 D = some (.lst ((xs.map fun x => V.bl (numV x)).take i))) ?_ ?_ ?_ ?_
    · exact ⟨s1.trans (same_new hD), by rw [upd_same, List.take_zero]⟩
    · rintro i H2 _ ⟨s2, _⟩
      exact SqL.of (s2 _ _ ha)
    · rintro i x H2 hx ⟨s2, h3⟩
      obtain ⟨m, hm⟩ := hty x (List.mem_of_getElem? hx)
      refine ⟨rfl, _, rfl, x, _, _, m, rfl, hm.same s2, .inr ⟨0, rfl⟩, .inl rfl, _, h3, ?_, ?_⟩
      · rw [List.length_take, List.length_map]
        exact small1000 (by omega)
      · refine ⟨fun y o hy => ?_, ?_⟩
        · rw [upd_ne (ne_of_none hy hD0)]
          exact s2 y o hy
        · rw [upd_same, take_snoc (x := V.bl (numV x)) (by rw [List.getElem?_map, hx]; rfl)]
          rfl
    · rintro H2 ⟨s2, h3⟩
      rw [List.take_of_length_le (by rw [List.length_map]; exact Nat.le_refl _)] at h3
      refine ⟨D, xs.map numV, rfl, SqL.of (by rw [h3, List.map_map]; rfl), ?_⟩
      rw [List.all_map]
      exact q _ s2
  · refine ⟨_, (pss_cons (ps_if (pt_not (pt_val (pe_callB call_isiT (by rfl) T.b_isinstance (by decide +kernel) (pa_cons (pv 0) (pa_cons (pe_tup (pa_cons (pe_bltn (v := .ty "list") (u := .type "list") (by rfl) T.b_list (by decide +kernel) rfl) (pa_cons (pe_bltn (v := .ty "tuple") (u := .type "tuple") (by rfl) T.b_tuple (by decide +kernel) rfl) pa_nil))) pa_nil))))) (pss_one (ps_ret pe_bl)) pss_nil)
      (pss_one (ps_ret (pe_callB (cr_all rfl) (by rfl) T.b_all (by decide +kernel) (pa_cons (pe_lc (own := [("item", 1)]) (g := (gName 1)) (by rfl) scNums.nd (pi_tup (pv 0)) (blkOk_by (own := [("item", 1)]) (N := ["value", "item"]) (sc := defScope sNums) (by decide +kernel)) (fun _ _ _ _ _ => (pg_name (i := 1) scNums.nd rfl (.inl rfl))) (fun _ _ _ _ _ => pts_nil) (fun _ _ _ _ _ => (pe_cd D_is_within G_is_within hr (by decide) (pa_cons (pv 1) (pa_cons pe_int (pa_cons pe_non pa_nil)))))) pa_nil))))), ?_⟩
    refine ⟨_, rfl, (by show 2 ≤ sizeLine; decide), fun tp htp => ?_⟩
    have s1 := same_new (o := .tup [.ty "list", .ty "tuple"]) htp
    refine ⟨.ref a, tp, _, _, [.type "list", .type "tuple"], _, rfl, upd_same, .cons (.ty _) (.cons (.ty _) .nil), tyx_same hv.1 s1, kit_lt hv.2, _, rfl, ?_⟩
    refine iteF ?_
    refine ⟨_, rfl, a, rfl, ⟨_, SqT.of (s1 _ _ ha)⟩, fun D hD => ?_⟩
    have hD0 := s1.free hD
    refine lc_tup (K := K) (a := a) (xs := xs) (fun i H2 => Same H H2 ∧ H2 D = some (.lst ((xs.map fun x => V.bl (numV x)).take i))) ?_ ?_ ?_ ?_
    · exact ⟨s1.trans (same_new hD), by rw [upd_same, List.take_zero]⟩
    · rintro i H2 _ ⟨s2, _⟩
      exact SqT.of (s2 _ _ ha)
    · rintro i x H2 hx ⟨s2, h3⟩
      obtain ⟨m, hm⟩ := hty x (List.mem_of_getElem? hx)
      refine ⟨rfl, _, rfl, x, _, _, m, rfl, hm.same s2, .inr ⟨0, rfl⟩, .inl rfl, _, h3, ?_, ?_⟩
      · rw [List.length_take, List.length_map]
        exact small1000 (by omega)
      · refine ⟨fun y o hy => ?_, ?_⟩
        · rw [upd_ne (ne_of_none hy hD0)]
          exact s2 y o hy
        · rw [upd_same, take_snoc (x := V.bl (numV x)) (by rw [List.getElem?_map, hx]; rfl)]
          rfl
    · rintro H2 ⟨s2, h3⟩
      rw [List.take_of_length_le (by rw [List.length_map]; exact Nat.le_refl _)] at h3
      refine ⟨D, xs.map numV, rfl, SqL.of (by rw [h3, List.map_map]; rfl), ?_⟩
      rw [List.all_map]
      exact q _ s2
end
end TF52
/-! layouts in the heap -/
namespace TG
open PySem PySem.Spec L2
open PyProof.Rows hiding St
theorem small_le {n : Nat} (h : n ≤ 1000000) : n < sizeLine := by rw [sizeLine_eq]; omega
theorem kget_of {K : PySem.W.Frag} {a : Addr} {k : Str} {Q : VK} {H : Hp} {n : Int} (h : (∃ u, PySem.W.nsIn K a k = some (some u) ∧ RelV (.int n) u) ∨ (PySem.W.nsIn K a k = some none ∧ V.int 0 = V.int n)) (q : Q (.int n) H) :
    (∃ v u, PySem.W.nsIn K a k = some (some u) ∧ RelV v u ∧ Q v H) ∨ (PySem.W.nsIn K a k = some none ∧ Q (.int 0) H) := by
  rcases h with ⟨u, e, r⟩ | ⟨e, z⟩
  · exact .inl ⟨_, u, e, r, q⟩
  · exact .inr ⟨e, by rw [z]; exact q⟩
theorem ixN_of {n j : Nat} (hj : j < n) : ixN n (j : Int) = some j := by
  unfold ixN
  rw [if_pos (by omega), if_pos (by omega)]
  simp
theorem zero_len {n : Nat} : (List.replicate n [V.int 0]).flatten = List.replicate n (V.int 0) := by
  induction n with
  | zero => rfl
  | succ n ih => rw [List.replicate_succ, List.flatten_cons, ih]; rfl
theorem non_len {n : Nat} : (List.replicate n [V.non]).flatten = List.replicate n V.non := by
  induction n with
  | zero => rfl
  | succ n ih => rw [List.replicate_succ, List.flatten_cons, ih]; rfl
/-- where the j-th part ends that stands in it, counted from it -/
def Wr.cut : Wr → Nat → Nat
  | .nm _, _ => 1
  | .of _ b, j => if j = 0 then 1 else 1 + b.sg
  | .to a b, j => if j = 0 then 1 else if j = 1 then 1 + a.sg else 1 + a.sg + b.sg
theorem Wr.cut_zero : ∀ s : Wr, s.cut 0 = 1
  | .nm _ => rfl
  | .of _ _ => rfl
  | .to _ _ => rfl
theorem Wr.cut_pos : ∀ (s : Wr) (j : Nat), 1 ≤ s.cut j
  | .nm _, _ => Nat.le_refl _
  | .of _ b, j => by show 1 ≤ if j = 0 then 1 else 1 + b.sg; split <;> omega
  | .to a b, j => by show 1 ≤ if j = 0 then 1 else if j = 1 then 1 + a.sg else 1 + a.sg + b.sg; split; omega; split <;> omega
theorem Wr.cut_end : ∀ s : Wr, s.cut s.kids.length = s.sg
  | .nm _ => rfl
  | .of _ b => by show 1 + b.sg = b.sg + 1; omega
  | .to a b => by show 1 + a.sg + b.sg = a.sg + b.sg + 1; omega
theorem Wr.cut_kid : ∀ {w s : Wr} {i j : Nat}, w.subs[i]? = some s → j < s.kids.length → ∃ c, w.subs[i + s.cut j]? = some c ∧ s.cut (j + 1) = s.cut j + c.sg ∧ s.kids[j]? = some (s.cut j)
  | w, .nm _, i, j, h, hj => absurd hj (Nat.not_lt_zero j)
  | w, .of x b, i, j, h, hj => by
    have hj : j < 1 := hj
    obtain rfl : j = 0 := by omega
    exact ⟨b, kid_of h, rfl, rfl⟩
  | w, .to a b, i, j, h, hj => by
    have hj : j < 2 := hj
    by_cases c : j = 0
    · subst c
      exact ⟨a, kid_one h, rfl, rfl⟩
    · obtain rfl : j = 1 := by omega
      exact ⟨b, by rw [show i + (Wr.to a b).cut 1 = i + 1 + a.sg from (Nat.add_assoc i 1 a.sg).symm]; exact kid_two h, rfl, rfl⟩
def kidV (i : Nat) (s : Wr) : List V := s.kids.map fun k => V.int ((i + k : Nat) : Int)
/-- the words of a writing's signs -/
def wdV (w : Wr) : List V := w.subs.map fun s => V.str s.wd
theorem wdV_at {w s : Wr} {i : Nat} (h : w.subs[i]? = some s) : (wdV w)[i]? = some (V.str s.wd) := by
  unfold wdV
  rw [List.getElem?_map, h]
  rfl
theorem wdV_len (w : Wr) : (wdV w).length = w.sg := by
  unfold wdV
  rw [List.length_map, w.subs_len]
/-- where each part ends -/
def EndsAt (H : Hp) (e : Addr) (w : Wr) : Prop := ∃ xs : List V, H e = some (.lst xs) ∧ xs.length = w.sg ∧ ∀ (i : Nat) (s : Wr), w.subs[i]? = some s → xs[i]? = some (V.int ((i + s.sg : Nat) : Int))
/-- where its own parts begin -/
def BelowAt (H : Hp) (b : Addr) (w : Wr) : Prop := ∃ bs : List Addr, H b = some (.lst (bs.map V.ref)) ∧ bs.length = w.sg ∧ ∀ (i : Nat) (s : Wr) (a : Addr), w.subs[i]? = some s → bs[i]? = some a → H a = some (.lst (kidV i s))
def optV : Option Nat → V
  | none => .non
  | some j => .int (j : Int)
/-- the "of" just around -/
def AroundAt (H : Hp) (a : Addr) (w : Wr) : Prop := ∃ xs : List V, H a = some (.lst xs) ∧ xs.length = w.sg ∧ ∀ i, i < w.sg → xs[i]? = some (optV ((w.env i).head?.map (·.2)))
/-- the "of" that binds it -/
def BindAt (H : Hp) (a : Addr) (w : Wr) : Prop := ∃ xs : List V, H a = some (.lst xs) ∧ xs.length = w.sg ∧ ∀ i, i < w.sg → xs[i]? = some (optV (w.bnd i))
/-- the second of a sign's pair -/
def nvV : Wr → V
  | .nm z => .str z
  | .of x _ => .str x
  | .to _ _ => .non
/-- the signs, each a pair -/
def SignsAt (H : Hp) (a : Addr) (w : Wr) : Prop := ∃ ts : List Addr, H a = some (.lst (ts.map V.ref)) ∧ ts.length = w.sg ∧ ∀ (i : Nat) (s : Wr) (t : Addr), w.subs[i]? = some s → ts[i]? = some t → H t = some (.tup [.str s.wd, nvV s])
theorem EndsAt.same {H H' : Hp} {a : Addr} {w : Wr} (h : EndsAt H a w) (s : Same H H') : EndsAt H' a w := let ⟨xs, e, l, k⟩ := h; ⟨xs, s _ _ e, l, k⟩
theorem BelowAt.same {H H' : Hp} {a : Addr} {w : Wr} (h : BelowAt H a w) (s : Same H H') : BelowAt H' a w := let ⟨bs, e, l, k⟩ := h; ⟨bs, s _ _ e, l, fun i t a h1 h2 => s _ _ (k i t a h1 h2)⟩
theorem AroundAt.same {H H' : Hp} {a : Addr} {w : Wr} (h : AroundAt H a w) (s : Same H H') : AroundAt H' a w := let ⟨xs, e, l, k⟩ := h; ⟨xs, s _ _ e, l, k⟩
theorem BindAt.same {H H' : Hp} {a : Addr} {w : Wr} (h : BindAt H a w) (s : Same H H') : BindAt H' a w := let ⟨xs, e, l, k⟩ := h; ⟨xs, s _ _ e, l, k⟩
theorem SignsAt.same {H H' : Hp} {a : Addr} {w : Wr} (h : SignsAt H a w) (s : Same H H') : SignsAt H' a w := let ⟨xs, e, l, k⟩ := h; ⟨xs, s _ _ e, l, fun i t a h1 h2 => s _ _ (k i t a h1 h2)⟩
/-- a store where nothing stood ahead -/
theorem same_put {H H2 : Hp} {a : Addr} {o : HO} (s : Same H H2) (h : H a = none) : Same H (L2.upd H2 a o) := fun b u e => by
  rw [upd_ne (ne_of_none e h)]
  exact s b u e
theorem get_lt {α : Type} {xs : List α} {i : Nat} (h : i < xs.length) : ∃ x, xs[i]? = some x := ⟨xs[i], List.getElem?_eq_getElem h⟩
theorem lt_get {α : Type} {xs : List α} {i : Nat} {x : α} (h : xs[i]? = some x) : i < xs.length := (List.getElem?_eq_some_iff.mp h).1
theorem mem_get {α : Type} {xs : List α} {i : Nat} {x : α} (h : xs[i]? = some x) : x ∈ xs := List.mem_of_getElem? h
theorem nodup_get {α : Type} {xs : List α} (n : xs.Nodup) {i j : Nat} {x : α} (h : xs[i]? = some x) (k : xs[j]? = some x) : i = j := by
  obtain ⟨hi, e1⟩ := List.getElem?_eq_some_iff.mp h
  obtain ⟨hj, e2⟩ := List.getElem?_eq_some_iff.mp k
  exact (List.getElem_inj n).mp (e1.trans e2.symm)
theorem wr_get (w : Wr) {i : Nat} (h : i < w.sg) : ∃ s, w.subs[i]? = some s := get_lt (by rw [w.subs_len]; exact h)
def spBounds : Sp := fun vs H Q _ => ∃ (r : Addr) (w : Wr), vs = [.ref r] ∧ H r = some (.lst (wdV w)) ∧ w.sg ≤ 2000 ∧
  ∀ (t e b : Addr) (H' : Hp), Same H H' → H' t = some (.tup [.ref e, .ref b]) → EndsAt H' e w → BelowAt H' b w → Q (.ref t) H'
def spAround : Sp := fun vs H Q _ => ∃ (g b : Addr) (w : Wr), vs = [.ref g, .ref b] ∧ SignsAt H g w ∧ BelowAt H b w ∧ w.sg ≤ 2000 ∧
  ∀ (a : Addr) (H' : Hp), Same H H' → AroundAt H' a w → Q (.ref a) H'
def spBinder : Sp := fun vs H Q _ => ∃ (g a : Addr) (w : Wr) (i : Nat), vs = [.ref g, .ref a, .int (i : Int)] ∧ SignsAt H g w ∧ AroundAt H a w ∧ i < w.sg ∧ w.sg ≤ 2000 ∧ w.all okN = true ∧
  Q (optV (w.bnd i)) H
end TG
/-! own rules: the sum of a tuple, enumerate of a tuple, zip of tuples as a walk; one of two readings -/
namespace TG
open PySem PySem.Spec L2
open PyProof.Rows hiding St
section
variable {X : Cx}
/-- sum(t), t a tuple of ints -/
def rSumT (K : PySem.W.Frag) : List V → Hp → VK → Prop := fun vs H Q => ∃ (t : Addr) (ns : List Int), vs = [V.ref t] ∧ SqT K H t (ns.map V.int) ∧ Q (.int ns.sum) H
theorem cr_sumT (hc : X.calm = true) : CallR X (.builtin "sum") (rSumT X.K) := by
  intro pins s σ H vs us Q I r h
  obtain ⟨t, ns, rfl, ht, q⟩ := h
  obtain ⟨its, rv, it, _⟩ := I.tuple ht
  cases Vals.ref1 r
  obtain ⟨xs, e⟩ := rv.ints.allInts.items
  have hn := rv.ints.numsOf
  rw [e] at it
  refine PySem.W.ktm_sumG (I.ok.hd hc) it fun h' tk t' k => ⟨.int ns.sum, H, I.kept k, ⟨t', ?_⟩, q⟩
  have e2 : numsOf (intItems xs).toList = ns := by
    rw [← e]
    exact hn
  rw [nums_intItems] at e2
  rw [preSum_eq, List.take_of_length_le (by simp), e2]
end
/-! ### enumerate(tuple) -/
theorem meets_enum1 {v : Value} {o : Obj} {G : Heap → Prop} (B : Begins v o G) :
    Meets (Builtin.«enumerate.__new__» ⟨[.type "enumerate", v], []⟩) (fun _ R s => G s.heap ∧
      R (.ok (.ret (.ref (s.heap.push o).objs.size))) { s with heap := (s.heap.push o).push { cls := .type "enumerate", data := .fields #[.none, .bool false, .ref s.heap.objs.size, rawInt 0, .none, .none] } }) := by
  refine .of_wp fun prog w A R s h => ?_
  obtain ⟨hp, g, d, tk, os⟩ := s
  obtain ⟨g1, h⟩ := h
  have hsub := sub_enumerate
  have step : ∀ {A2 : Around} {E : Value → Shared → Prop} {Q : Value → Shared → Prop}, Q (.ref hp.objs.size) ⟨hp.push o, g, d, tk, os⟩ → wpAny (model prog w) A2 (pyIter v) Q E ⟨hp, g, d, tk, os⟩ := by
    intro A2 E Q q
    exact B.iter prog w _ _ ⟨hp, g, d, tk, os⟩ _ g1 q
  wp_walk using step
  refine wpAny_stack_any fun st => wpAny_pure ?_
  split
  · rename_i c _ _ _ _ _
    by_cases e : (c == Value.type "enumerate") = true
    all_goals
      simp only [e]
      wp_walk using step
      exact ⟨_, rfl, h⟩
  · wp_walk using step
    exact ⟨_, rfl, h⟩
section
variable {prog : Program} {w : World} {A : Around} {E : Value → Shared → Prop} {s : Shared}
theorem call_enum1 {v : Value} {o : Obj} {G : Heap → Prop} {Q : Value → Shared → Prop} (B : Begins v o G) (g1 : G s.heap)
    (h : ∀ h2, IsEnum h2 (s.heap.objs.size + 1) s.heap.objs.size 0 .none → h2.get? s.heap.objs.size = some o → (∀ b u, s.heap.get? b = some u → h2.get? b = some u) → Q (.ref (s.heap.objs.size + 1)) { s with heap := h2 }) :
    wpAny (model prog w) A (call (.type "enumerate") [v]) Q E s := by
  have hz : (s.heap.push o).objs.size = s.heap.objs.size + 1 := Heap.size_push ..
  refine callType_new F.called_enumerate (by decide) (F.typeCall_enumerate_1 v) (F.newCall_enumerate_1 v) (fun x => F.args_object_init_2 x v) F.entry_enumerate_new (meets_enum1 B) ⟨g1, ?_⟩
  have at1 : ((s.heap.push o).push { cls := .type "enumerate", data := .fields #[.none, .bool false, .ref s.heap.objs.size, rawInt 0, .none, .none] }).get? (s.heap.push o).objs.size = some { cls := .type "enumerate", data := .fields #[.none, .bool false, .ref s.heap.objs.size, rawInt 0, .none, .none] } :=
    Heap.get?_push_size _ rfl
  rw [hz] at at1
  show _ ∧ _
  rw [hz]
  exact ⟨⟨_, at1, rfl⟩, h _ at1 (Heap.get?_push_of_some _ (Heap.get?_push_size _ B.free)) fun b u e => Heap.get?_push_of_some _ (Heap.get?_push_of_some _ e)⟩
end
/-- the tuple at a as it stands at each turn, each item in a new pair -/
def IteT (K : PySem.W.Frag) (a : Addr) : It :=
  ⟨fun i H => ∃ (xs : List V) (x : V), SqT K H a xs ∧ xs[i]? = some x,
   fun i H v H' => ∃ T x, v = .ref T ∧ H T = none ∧ H' = upd H T (.tup [.int (i : Nat), x]) ∧ ∀ xs, SqT K H a xs → xs[i]? = some x,
   fun i H => ∃ xs : List V, SqT K H a xs ∧ xs.length ≤ i⟩
theorem turn_enumT {P : Program} {w : World} {K : PySem.W.Frag} {elts : List Expr} {kk : Nat} {tpos : Pos} (a e it : Addr) :
    Turn P w K (.Tuple elts kk tpos) (IteT K a) [e, it] e (fun i h => (∃ old, IsEnum h e it ((i : Nat) : Int) old) ∧ h.IsTupleIter it a i ∧ e ≠ it) := by
  refine ⟨by simp, fun i h st b hb => ?_, fun i h h2 st k => ?_, ?_, ?_, ?_⟩
  · obtain ⟨⟨old, he⟩, ⟨o, ho, _, hd⟩, _⟩ := st
    rcases List.mem_cons.mp hb with rfl | hb
    · exact ⟨_, he, fun v q => nomatch q⟩
    · cases List.mem_singleton.mp hb
      exact ⟨o, ho, fun v q => nomatch hd.symm.trans q⟩
  · obtain ⟨⟨old, he⟩, hi, ne⟩ := st
    exact ⟨⟨old, k e List.mem_cons_self _ he⟩, hi.at fun o q => k it (by simp) o q, ne⟩
  · intro X hP hw hK hc i pins s σ H E I hf st hg
    cases hP; cases hw; cases hK
    obtain ⟨⟨old, he⟩, hit, ne⟩ := st
    obtain ⟨xs, x, hq, hx⟩ := hg
    obtain ⟨its, rv, tp, _⟩ := I.tuple hq
    obtain ⟨u, hu, ru⟩ := rv.get hx
    have le : e < s.heap.objs.size := Heap.lt_size he
    have li : it < s.heap.objs.size := let ⟨_, q, _⟩ := hit; Heap.lt_size q
    have ae : e ∉ [it, a] := by
      intro z
      rcases List.mem_cons.mp z with z | z
      · exact ne z
      · cases List.mem_singleton.mp z
        obtain ⟨o, ho, hcl, _⟩ := id tp
        have z2 := he.symm.trans ho
        cases z2
        exact nomatch (show Value.type "enumerate" = Value.type "tuple" from hcl)
    have ai : a ≠ it := by
      intro z
      subst z
      obtain ⟨o, ho, hcl, _⟩ := id tp
      obtain ⟨o2, ho2, hcl2, _⟩ := id hit
      have z2 := ho.symm.trans ho2
      cases z2
      exact nomatch (show Value.type "tuple" = Value.type "tuple_iterator" from hcl.symm.trans hcl2)
    have hI : its.toArray[i]? = some u := by simpa using hu
    have hlt : i < its.toArray.size := (Array.getElem?_eq_some_iff.mp hI).1
    refine wpAny_pyNext_enum_itemD (Draws.tuple (A := X.A.in1) (by simpa using I.ok.hd hc) it a ai its.toArray) he ⟨hit, tp⟩ hlt ne ae fun y h2 tk hy ho st2 hT _ hk => ?_
    cases Option.some.inj (hI.symm.trans hy)
    refine ⟨_, rfl, wpAny_letOwnedTupleGo_enum (s := { s with heap := h2, toks := tk + 1 }) ho fun h3 he3 sb => ?_⟩
    have hT3 : h3.get? s.heap.objs.size = some { cls := .type "tuple", data := .seq #[.int i tk, u] } := (sb.2 _ (Nat.ne_of_gt le)).trans hT
    have fresh := I.hok.fresh (Nat.le_refl s.heap.objs.size)
    have I1 : Inv X pins σ (upd H s.heap.objs.size (.tup [.int (i : Nat), x])) { s with heap := h3, toks := tk + 1 } := by
      refine I.turnedNew (ch := [e, it]) (fun b ob hb q => ?_) hf (Nat.le_refl _) ⟨by show 2 ≤ sizeLine; decide, [.int i tk, u], .cons ⟨_, rfl⟩ (.cons ru .nil), ⟨_, hT3, rfl, _, rfl⟩⟩
      have b1 : b ≠ e := fun z => hb (by simp [z])
      have b2 : b ≠ it := fun z => hb (by simp [z])
      exact (sb.2 b b1).trans (hk b ob b1 b2 q)
    refine ⟨.ref s.heap.objs.size, _, I1, rfl, ⟨_, x, rfl, fresh, rfl, fun ys hy => by rw [I.tuple_inj hy hq]; exact hx⟩, ⟨⟨u, by simpa using he3⟩, st2.1.at fun o q => (sb.2 it (Ne.symm ne)).trans q, ne⟩, fun b hb => ?_⟩
    have lb : b < s.heap.objs.size := by
      rcases List.mem_cons.mp hb with rfl | hb
      · exact le
      · cases List.mem_singleton.mp hb
        exact li
    rw [upd_ne (Nat.ne_of_lt lb)]
    exact (hf b hb).1
  · intro X hP hw hK hc i pins s σ H E I hf st hg
    cases hP; cases hw; cases hK
    obtain ⟨⟨old, he⟩, hit, ne⟩ := st
    obtain ⟨xs, hq, hx⟩ := hg
    obtain ⟨its, rv, tp, _⟩ := I.tuple hq
    have ai : a ≠ it := by
      intro z
      subst z
      obtain ⟨o, ho, hcl, _⟩ := id tp
      obtain ⟨o2, ho2, hcl2, _⟩ := id hit
      have z2 := ho.symm.trans ho2
      cases z2
      exact nomatch (show Value.type "tuple" = Value.type "tuple_iterator" from hcl.symm.trans hcl2)
    obtain ⟨f0, f1, f2, f3, f4, f5⟩ := hf it (by simp)
    have hl := rv.length
    have hT : s.TypeIs (.ref e) "enumerate" := ⟨_, he, rfl⟩
    unfold pyNext
    refine wpAny_bind (wpAny_attempt (wpAny_callSpecial?_slot (name := Str.ofString "__next__") hT F.slot_enumerate_next (wpAny_call_entry F.slot_enumerate_next hT F.entry_enumerate_next ?_ (F.args_enumerate_next_1 _))))
    show wpAny _ _ (field (.ref e) 2 >>= _) _ _ _
    refine wpAny_bind (wpAny_field he rfl (x := .ref it) rfl ?_)
    refine wpAny_bind (wpAny_nextOf_tuple_end (by simpa using I.ok.hd hc) hit tp (by simp; omega) fun h2 x ex hx2 => ?_)
    obtain ⟨o, ho, hcl⟩ := hx2
    refine wpAny_bind (wpAny_isInstance (T := "StopIteration") (b := true) ⟨o, ho, hcl⟩ isSubtype_stop ?_)
    exact wpAny_pure ⟨rfl, I.turned (t' := s.toks) (fun b u hb q => ex b u hb q) f0 f1 f3 f4 f5⟩
  · intro A i s Q E st h
    obtain ⟨⟨_, he⟩, _⟩ := st
    exact wpAny_pyIter_enum he h
def iEnumT (K : PySem.W.Frag) (ta : L2.TA) : TI := fun σ H R => ta σ H fun vs H1 => ∃ a xs, vs = [.ref a] ∧ SqT K H1 a xs ∧ R (IteT K a) H1
theorem pi_enumT {X : Cx} {e : Expr} {ta : L2.TA} {p pos tpos : Pos} {elts : List Expr} {kk : Nat} (hg : Gl X "enumerate") (hm : X.mg "enumerate" = none) (ha : PA X [e] ta) (hs : starEach [e] X.env = [(false, eval e X.env)] := by rfl) :
    PI X (.Tuple elts kk tpos) (.Call (.Name "enumerate" p) [e] [] pos) (iEnumT X.K ta) := by
  refine ⟨fun pins s σ H R I h => Call_ (ld_blt I hg hm boot_enumerate (PyProof.Rows.callWith_type1 (thn (ha.run pos pins s σ H _ I h) fun us s1 ⟨vs, H1, I1, r1, q1⟩ => ?_) hs rfl))⟩
  obtain ⟨a, xs, rfl, hq, q⟩ := q1
  cases Vals.ref1 r1
  obtain ⟨its, rv, tp, _⟩ := I1.tuple hq
  refine call_enum1 (begins_tuple a its.toArray) tp fun h2 he hit hk => wpAny_pyIter_enum he ?_
  have I2 : Inv X pins σ H1 { s1 with heap := h2 } := I1.kept (t' := s1.toks) hk
  refine ⟨s1.heap.objs.size + 1, [s1.heap.objs.size + 1, s1.heap.objs.size], _, _, H1, rfl, I2, turn_enumT a (s1.heap.objs.size + 1) s1.heap.objs.size, ⟨⟨.none, he⟩, ⟨_, hit, rfl, rfl⟩, Nat.succ_ne_self _⟩, fun b hb => ?_, q⟩
  have lb : s1.heap.objs.size ≤ b := by
    rcases List.mem_cons.mp hb with rfl | hb
    · omega
    · cases List.mem_singleton.mp hb
      exact Nat.le_refl _
  exact I1.fpOk lb (I1.hok.fresh lb)
section
variable {K : PySem.W.Frag} {a b : Addr} {xs ys : List V}
theorem walk_enumT : Walk (IteT K a) xs.length (fun H => SqT K H a xs) (YPair (fun i => some (.int (i : Nat))) (fun i => xs[i]?)) := by
  constructor
  · exact fun i _ hi q => ⟨xs, xs[i], q, by simp [hi]⟩
  · exact fun _ q => ⟨xs, q, Nat.le_refl _⟩
  · rintro i H v H' _ q ⟨T, x, h1, h2, h3, h4⟩
    exact ⟨T, .int (i : Nat), x, h1, h2, h3, rfl, h4 xs q⟩
theorem walk_zipT {n : Nat} (hn : n = min xs.length ys.length) : Walk (RZ.ItzT K a b) n (fun H => SqT K H a xs ∧ SqT K H b ys) (YPair (fun i => xs[i]?) (fun i => ys[i]?)) := by
  constructor
  · intro i _ hi q
    have h1 : i < xs.length := by omega
    have h2 : i < ys.length := by omega
    exact ⟨xs, ys, xs[i], ys[i], q.1, q.2, by simp [h1], by simp [h2]⟩
  · exact fun _ q => ⟨xs, ys, q.1, q.2, by omega⟩
  · rintro i H v H' _ q ⟨T, x, z, h1, h2, h3, h4, h5⟩
    exact ⟨T, x, z, h1, h2, h3, h4 xs q.1, h5 ys q.2⟩
end
/-! ### one of two readings -/
section
variable {X : Cx}
def eTwo (t1 t2 : TE) : TE := fun σ H Q => t1 σ H Q ∨ t2 σ H Q
def sTwo (t1 t2 : TS) : TS := fun D σ H => t1 D σ H ∨ t2 D σ H
theorem pe_or2 {e : Expr} {t1 t2 : TE} (h1 : PE X e t1) (h2 : PE X e t2) : PE X e (eTwo t1 t2) :=
  ⟨fun pins s σ H Q I h => h.elim (fun h => h1.run pins s σ H Q I h) fun h => h2.run pins s σ H Q I h⟩
theorem ps_or2 {st : Stmt} {t1 t2 : TS} (h1 : PS X st t1) (h2 : PS X st t2) : PS X st (sTwo t1 t2) :=
  ⟨fun pins s σ H D I h => h.elim (fun h => h1.run pins s σ H D I h) fun h => h2.run pins s σ H D I h⟩
end
/-! ### a walk whose body is whatever stands there -/
section
variable {J : It} {n : Nat} {G : Hp → Prop} {Y : Nat → Hp → V → Hp → Prop}
theorem walk_in (w : Walk J n G Y) {Fin : Hp → Prop} {Body : V → Hp → (Hp → Prop) → Prop} {H0 : Hp} (Pv : Nat → Hp → Prop) (h0 : Pv 0 H0) (hG : ∀ i H, i ≤ n → Pv i H → G H)
    (hs : ∀ i x H H2, i < n → Pv i H → Y i H x H2 → Body x H2 (Pv (i + 1))) (hd : ∀ H, Pv n H → Fin H) :
    ∃ W : Nat → Nat → Hp → Prop, (∃ m, W 0 m H0) ∧ ∀ i m H, W i m H → (J.stop i H ∧ Fin H) ∨ (J.go i H ∧ ∃ Nx : Hp → Prop, (∀ H2, Nx H2 → ∃ m2, m2 < m ∧ W (i + 1) m2 H2) ∧ ∀ x H2, J.yld i H x H2 → Body x H2 Nx) := by
  refine ⟨fun i m H => m + i = n ∧ Pv i H, ⟨n, rfl, h0⟩, fun i m H hw => ?_⟩
  obtain ⟨e, p⟩ := hw
  have g := hG i H (by omega) p
  by_cases c : i < n
  · exact .inr ⟨w.goes i H c g, Pv (i + 1), fun H2 p2 => ⟨m - 1, by omega, by omega, p2⟩, fun x H2 y => hs i x H H2 c p (w.yields i H x H2 c g y)⟩
  · have e2 : i = n := by omega
    subst e2
    exact .inl ⟨w.stops H g, hd H p⟩
end
/-! ### a list or a tuple to be taken apart -/
section
variable {X : Cx}
def gTwo (t1 t2 : TG) : TG := fun v σ H Q => t1 v σ H Q ∨ t2 v σ H Q
theorem pg_or2 {e : Expr} {t1 t2 : TG} (h1 : PG X e t1) (h2 : PG X e t2) : PG X e (gTwo t1 t2) := by
  constructor
  intro pins s σ H x v Q I r h
  exact h.elim (fun h => h1.run pins s σ H x v Q I r h) fun h => h2.run pins s σ H x v Q I r h
end
/-! ### a list or a tuple, whichever it is -/
def SqX (K : PySem.W.Frag) (H : Hp) (a : Addr) (xs : List V) : Prop := SqL K H a xs ∨ SqT K H a xs
theorem SqX.of {K : PySem.W.Frag} {H : Hp} {a : Addr} {xs : List V} (h : H a = some (.lst xs) ∨ H a = some (.tup xs)) : SqX K H a xs := h.imp SqL.of SqT.of
section
variable {X : Cx} {tg : Expr}
def iSeq (K : PySem.W.Frag) (te : TE) : TI := fun σ H R => te σ H fun x H1 => ∃ a xs, x = .ref a ∧ SqX K H1 a xs ∧
  ∀ (J : It) (G : Hp → Prop), Walk J xs.length G (YAt xs) → (∀ H2, (∀ o, H1 a = some o → H2 a = some o) → G H2) → R J H1
theorem pi_seq {e : Expr} {te : TE} (he : PE X e te) : PI X tg e (iSeq X.K te) := by
  refine ⟨fun pins s σ H R I h => thn (he.run pins s σ H _ I h) fun v s1 ⟨x, H1, I1, r1, a, xs, ex, hq, q⟩ => ?_⟩
  cases ex
  cases r1
  have fp : ∀ b ∈ [s1.heap.objs.size], FpOk X pins H1 b := fun b hb => by
    cases List.mem_singleton.mp hb
    exact I1.fpOk (Nat.le_refl _) (I1.hok.fresh (Nat.le_refl _))
  rcases hq with hq | hq
  · obtain ⟨its, rv, pl, _⟩ := I1.list hq
    exact wpAny_pyIter_list pl.isList ⟨s1.heap.objs.size, [s1.heap.objs.size], _, _, H1, rfl, I1.kept (t' := s1.toks) fun b o z => Heap.get?_push_of_some _ z, turn_list a _, ⟨_, Heap.get?_push_size _ rfl, rfl, rfl⟩, fp, q _ _ walk_list fun H2 k => hq.imp (Or.imp (k _) fun ⟨o, z⟩ => ⟨o, k _ z⟩) id⟩
  · obtain ⟨its, rv, pl, _⟩ := I1.tuple hq
    exact wpAny_pyIter_tuple (show s1.heap.IsTuple a its.toArray from pl) ⟨s1.heap.objs.size, [s1.heap.objs.size], _, _, H1, rfl, I1.kept (t' := s1.toks) fun b o z => Heap.get?_push_of_some _ z, turn_tuple a _, ⟨_, Heap.get?_push_size _ rfl, rfl, rfl⟩, fp, q _ _ walk_tup fun H2 k => hq.imp (Or.imp (k _) fun ⟨o, z⟩ => ⟨o, k _ z⟩) id⟩
theorem stays {H G0 G : Hp} {a : Addr} {u v : HO} (hk : H a = some u ∨ H a = some v) (s0 : Same H G0) (s : Same H G) : ∀ o, G0 a = some o → G a = some o := by
  intro o e
  rcases hk with h | h
  · cases Option.some.inj ((s0 _ _ h).symm.trans e)
    exact s _ _ h
  · cases Option.some.inj ((s0 _ _ h).symm.trans e)
    exact s _ _ h
/-- tuple(x), x a list or a tuple -/
def rTupX (K : PySem.W.Frag) : List V → Hp → VK → Prop := fun vs H Q => ∃ a xs, vs = [V.ref a] ∧ SqX K H a xs ∧ ∀ p H2, Same H H2 → SqT K H2 p xs → Q (.ref p) H2
theorem call_tupX : CallR X (.type "tuple") (rTupX X.K) := by
  intro pins s σ H vs us Q I r h
  obtain ⟨a, xs, rfl, hq, q⟩ := h
  refine call_tuple_of pins s σ H _ us Q I r ⟨a, xs, rfl, ?_⟩
  rcases hq with hq | hq
  · exact .inl ⟨hq, fun l hl => q l _ (fun b o hb => by rw [upd_ne (ne_of_none hb hl)]; exact hb) (SqT.of upd_same)⟩
  · exact .inr ⟨hq, q a H (fun _ _ z => z) hq⟩
end
section
variable {X : Cx}
/-- list(x), x a list or a tuple -/
def rListX (K : PySem.W.Frag) : List V → Hp → VK → Prop := fun vs H Q => ∃ a xs, vs = [V.ref a] ∧ SqX K H a xs ∧ ∀ p, H p = none → Q (.ref p) (upd H p (.lst xs))
theorem call_listX : CallR X (.type "list") (rListX X.K) := call_list_of
end
/-- what is taken apart into two -/
theorem apart2 {K : PySem.W.Frag} {n : Nat} {t : TGs} {σ : L2.St} {H : Hp} {Q : L2.St → Hp → Prop} {a : Addr} {u x : V} (h : H a = some (.lst [u, x]) ∨ H a = some (.tup [u, x])) (hn : 2 = n) (q : t [u, x] σ H Q) : gTwo (gTup K n t) (gLst K n t) (.ref a) σ H Q := by
  rcases h with h | h
  · exact .inr ⟨a, _, rfl, SqL.of h, hn, q⟩
  · exact .inl ⟨a, _, rfl, SqT.of h, hn, q⟩
end TG
/-! asks: choices, what is to be asked, answers; what the package's defs promise -/
namespace TG
open PySem PySem.Spec L2
open PyProof.Rows hiding St
/-- the choices of so many numbers, in order -/
def chs : Nat → List (List Int)
  | 0 => [[]]
  | m + 1 => (chs m).flatMap fun c => [c ++ [0], c ++ [1]]
theorem chs_ok : ∀ m, m ≤ 3 → (chs m).length ≤ 8 ∧ 1 ≤ (chs m).length ∧ ∀ c ∈ chs m, c.length = m ∧ ∀ s ∈ c, s = 0 ∨ s = 1 := by
  have h : ∀ m, m < 4 → (chs m).length ≤ 8 ∧ 1 ≤ (chs m).length ∧ ∀ c ∈ chs m, c.length = m ∧ ∀ s ∈ c, s = 0 ∨ s = 1 := by decide
  exact fun m hm => h m (by omega)
/-- the second numbers -/
def second : List Int → Int → Nat → List Int
  | [], _, _ => []
  | s :: r, n, k => n * s :: second r (if s = 1 then n ^ k else n) k
def askOf (c : List Int) : List Int → Option (List Int)
  | [] => some (c.map fun s => 2 * s)
  | [v] => if (1 : Int) ∈ c ∧ ¬ v < 2 then some (second c (v + 1) (Builtin.Int.intBits v)) else none
  | _ => none
def nextIn : List (List Int) → List (List Int) → Option (Nat × List Int)
  | c :: cs, t :: ts => match askOf c t with
    | some a => some (0, a)
    | none => (nextIn cs ts).map fun p => (p.1 + 1, p.2)
  | _, _ => none
/-- the greatest first value -/
def frst (c : List Int) : Option Int :=
  match c.sum.toNat with
  | 0 => none
  | 1 => some 1000000000000000000
  | 2 => some 10000
  | _ => some 200
def okF (c t : List Int) (x : Int) : Bool :=
  match t, frst c with
  | [], some m => decide (x ≤ m)
  | _, _ => true
def run (cs : List (List Int)) : List (List Int) → List (List Int × Int) → Option (List (List Int))
  | ts, [] => some ts
  | ts, (ns, x) :: r => match nextIn cs ts with
    | some (i, a) => if a = ns ∧ okF (cs.getD i []) (ts.getD i []) x = true then run cs (ts.set i (ts.getD i [] ++ [x])) r else none
    | none => none
/-- what is known of one choice: two values at most, the first one not too great -/
def OkT (c t : List Int) : Prop := t.length ≤ 2 ∧ ∀ v, t.head? = some v → 0 ≤ v ∧ ∀ m, frst c = some m → v ≤ m
theorem askOf_some {c t a : List Int} (h : askOf c t = some a) : t = [] ∨ ∃ v, t = [v] := by
  match t, h with
  | [], _ => exact .inl rfl
  | [v], _ => exact .inr ⟨v, rfl⟩
theorem OkT.snoc {c t a : List Int} {x : Int} (h : OkT c t) (ha : askOf c t = some a) (hx : 0 ≤ x) (ho : okF c t x = true) : OkT c (t ++ [x]) := by
  rcases askOf_some ha with rfl | ⟨v, rfl⟩
  · refine ⟨Nat.le_succ 1, fun v hv => ?_⟩
    cases Option.some.inj hv
    refine ⟨hx, fun m hm => ?_⟩
    unfold okF at ho
    rw [hm] at ho
    exact of_decide_eq_true ho
  · exact ⟨Nat.le_refl 2, h.2⟩
theorem OkT.nil (c : List Int) : OkT c [] := ⟨by decide, fun v hv => nomatch hv⟩
theorem nextIn_some : ∀ {cs ts : List (List Int)} {i : Nat} {a : List Int}, nextIn cs ts = some (i, a) → ∃ c t, cs[i]? = some c ∧ ts[i]? = some t ∧ askOf c t = some a
  | c :: cs, t :: ts, i, a, h => by
    unfold nextIn at h
    cases e : askOf c t with
    | some b =>
      rw [e] at h
      cases Option.some.inj h
      exact ⟨c, t, rfl, rfl, e⟩
    | none =>
      rw [e] at h
      obtain ⟨⟨j, b⟩, hp, e2⟩ := Option.map_eq_some_iff.mp h
      cases e2
      obtain ⟨c2, t2, h1, h2, h3⟩ := nextIn_some hp
      exact ⟨c2, t2, h1, h2, h3⟩
  | [], _, _, _, h => nomatch h
  | _ :: _, [], _, _, h => nomatch h
/-! ### bits -/
theorem bits_le {v : Int} {k : Nat} (h : v.natAbs < 2 ^ k) : Builtin.Int.intBits v ≤ k := by
  unfold Builtin.Int.intBits
  by_cases e : v = 0
  · rw [if_pos (by rw [e]; rfl)]
    exact Nat.zero_le _
  · rw [if_neg (by simpa using e)]
    have : v.natAbs.log2 < k := (Nat.log2_lt (by omega)).mpr h
    omega
theorem bits_gt {v : Int} (h : 2 ≤ v) : 2 ≤ Builtin.Int.intBits v ∧ v + 1 ≤ 2 ^ Builtin.Int.intBits v ∧ 2 ^ (Builtin.Int.intBits v - 1) ≤ v := by
  have e : Builtin.Int.intBits v = v.natAbs.log2 + 1 := by
    unfold Builtin.Int.intBits
    rw [if_neg]
    intro c
    have : v = 0 := by simpa using c
    omega
  have n0 : v.natAbs ≠ 0 := by omega
  have h1 : v.natAbs < 2 ^ (v.natAbs.log2 + 1) := (Nat.log2_lt n0).mp (Nat.lt_succ_self _)
  have h2 : 2 ^ v.natAbs.log2 ≤ v.natAbs := Nat.log2_self_le n0
  rw [e]
  refine ⟨?_, ?_, ?_⟩
  · have : 1 ≤ v.natAbs.log2 := (Nat.le_log2 n0).mpr (by omega)
    omega
  · have h3 : ((2 ^ (v.natAbs.log2 + 1) : Nat) : Int) = (2 : Int) ^ (v.natAbs.log2 + 1) := by rw [Int.natCast_pow]; rfl
    omega
  · have h3 : ((2 ^ v.natAbs.log2 : Nat) : Int) = (2 : Int) ^ v.natAbs.log2 := by rw [Int.natCast_pow]; rfl
    rw [Nat.add_sub_cancel]
    omega
/-- the size of what is reckoned on the way -/
theorem size_ok {c : List Int} {v : Int} (h01 : ∀ s ∈ c, s = 0 ∨ s = 1) (h3 : c.sum.toNat ≤ 3) (h1 : 1 ≤ c.sum.toNat) (h0 : 0 ≤ v) (hm : ∀ m, frst c = some m → v ≤ m) : Builtin.Int.intBits v * Builtin.Int.intBits v ^ c.sum.toNat ≤ 4100 := by
  have p : ∀ (k j n : Nat), v.natAbs < 2 ^ k → k * k ^ n ≤ 4100 → c.sum.toNat = n → Builtin.Int.intBits v * Builtin.Int.intBits v ^ c.sum.toNat ≤ 4100 := fun k _ n hv hk e => by
    have b := bits_le hv
    rw [e]
    exact Nat.le_trans (Nat.mul_le_mul b (Nat.pow_le_pow_left b n)) hk
  have q : c.sum.toNat = 1 ∨ c.sum.toNat = 2 ∨ c.sum.toNat = 3 := by omega
  unfold frst at hm
  rcases q with e | e | e
  · rw [e] at hm
    have := hm _ rfl
    exact p 60 0 1 (by omega) (by decide) e
  · rw [e] at hm
    have := hm _ rfl
    exact p 14 0 2 (by omega) (by decide) e
  · rw [e] at hm
    have := hm _ rfl
    exact p 8 0 3 (by omega) (by decide) e
/-! ### how numbers and answers stand in the heap -/
def SeqI (H : Hp) (v : V) (ns : List Int) : Prop := ∃ a, v = .ref a ∧ (H a = some (.lst (ns.map V.int)) ∨ H a = some (.tup (ns.map V.int)))
def AnsAt (H : Hp) (v : V) (e : List Int × Int) : Prop := ∃ (a : Addr) (u : V), v = .ref a ∧ (H a = some (.lst [u, .int e.2]) ∨ H a = some (.tup [u, .int e.2])) ∧ SeqI H u e.1
def TupAt (H : Hp) (v : V) (c : List Int) : Prop := ∃ a, v = .ref a ∧ H a = some (.tup (c.map V.int))
def LstAt (H : Hp) (v : V) (c : List Int) : Prop := ∃ a, v = .ref a ∧ H a = some (.lst (c.map V.int))
theorem SeqI.same {H H2 : Hp} {v : V} {ns : List Int} (h : SeqI H v ns) (s : Same H H2) : SeqI H2 v ns := by
  obtain ⟨a, e, h⟩ := h
  exact ⟨a, e, h.imp (s _ _) (s _ _)⟩
theorem AnsAt.same {H H2 : Hp} {v : V} {e : List Int × Int} (h : AnsAt H v e) (s : Same H H2) : AnsAt H2 v e := by
  obtain ⟨a, u, e1, h1, h2⟩ := h
  exact ⟨a, u, e1, h1.imp (s _ _) (s _ _), h2.same s⟩
theorem TupAt.same {H H2 : Hp} {v : V} {c : List Int} (h : TupAt H v c) (s : Same H H2) : TupAt H2 v c := by
  obtain ⟨a, e, h⟩ := h
  exact ⟨a, e, s _ _ h⟩
/-- all answers good for so many numbers -/
def AnsOk (m : Nat) (as : List (List Int × Int)) : Prop := ∀ e ∈ as, e.1.length = m ∧ (∀ n ∈ e.1, 0 ≤ n) ∧ 0 ≤ e.2
def AnsL (H : Hp) (v : V) (as : List (List Int × Int)) : Prop := ∃ (a : Addr) (vs : List V), v = .ref a ∧ (H a = some (.lst vs) ∨ H a = some (.tup vs)) ∧ Paired (AnsAt H) vs as
/-! ### promises -/
def spCM : Sp := fun vs H Q _ => ∃ m : Nat, vs = [.int (m : Int)] ∧ m ≤ 3 ∧ Q .non H
def spChs : Sp := fun vs H Q _ => ∃ m : Nat, vs = [.int (m : Int)] ∧ m ≤ 3 ∧ ∀ (p : Addr) (rs : List V) (H' : Hp), Same H H' → H' p = some (.tup rs) → Paired (TupAt H') rs (chs m) → Q (.ref p) H'
def spLad : Sp := fun vs H Q _ => ∃ (n : Int) (k e : Nat), vs = [.int n, .int (k : Int)] ∧ 0 ≤ n ∧ n ≤ 2 ^ e ∧ e * k ≤ 10000 ∧ e ≤ 10000 ∧ k ≤ 10000 ∧ ∀ (p : Addr) (H' : Hp), Same H H' → H' p = some (.lst ((List.range (k + 1)).map fun j => V.int (n ^ j))) → Q (.ref p) H'
def spBase : Sp := fun vs H Q _ => ∃ v : Int, vs = [.int v] ∧ ∀ (p : Addr) (H' : Hp), Same H H' → H' p = some (.tup [.int (v + 1), .int (Builtin.Int.intBits v : Nat)]) → Q (.ref p) H'
def spAsked : Sp := fun vs H Q _ => ∃ (a l : Addr) (c t : List Int), vs = [.ref a, .ref l] ∧ H a = some (.tup (c.map V.int)) ∧ H l = some (.lst (t.map V.int)) ∧ (∀ s ∈ c, s = 0 ∨ s = 1) ∧ c.length ≤ 3 ∧ OkT c t ∧
  (askOf c t = none → ∀ H', Same H H' → Q .non H') ∧ ∀ (r : List Int) (p : Addr) (H' : Hp), askOf c t = some r → Same H H' → H' p = some (.tup (r.map V.int)) → Q (.ref p) H'
/-- the values that were told, choice by choice -/
def ToldAt (H : Hp) (l : Addr) (cs ts : List (List Int)) : Prop := ∃ rs, H l = some (.lst rs) ∧ Paired (LstAt H) rs ts ∧ Paired OkT cs ts
def spNext : Sp := fun vs H Q _ => ∃ (m : Nat) (l : Addr) (ts : List (List Int)), vs = [.int (m : Int), .ref l] ∧ m ≤ 3 ∧ ToldAt H l (chs m) ts ∧
  (nextIn (chs m) ts = none → ∀ (p : Addr) (H' : Hp), Same H H' → H' p = some (.tup [.non, .non]) → Q (.ref p) H') ∧
  ∀ (i : Nat) (r : List Int) (p u : Addr) (H' : Hp), nextIn (chs m) ts = some (i, r) → Same H H' → H' p = some (.tup [.int (i : Int), .ref u]) → H' u = some (.tup (r.map V.int)) → Q (.ref p) H'
def spRefuseV : Sp := fun vs H Q _ => ∃ (a l : Addr) (c t : List Int) (x : Int), vs = [.ref a, .ref l, .int x] ∧ H a = some (.tup (c.map V.int)) ∧ H l = some (.lst (t.map V.int)) ∧ (∀ s ∈ c, s = 0 ∨ s = 1) ∧ c.length ≤ 3 ∧ t.length ≤ 2 ∧ okF c t x = true ∧ Q .non H
def spIsAns (K : PySem.W.Frag) : Sp := fun vs H Q _ => ∃ (m : Nat) (v : V) (e : List Int × Int), vs = [.int (m : Int), v] ∧ AnsAt H v e ∧ m ≤ 3 ∧ e.1.length = m ∧ (∀ n ∈ e.1, 0 ≤ n) ∧ 0 ≤ e.2 ∧ ∀ H', Same H H' → Q (.bl true) H'
def spAreAns (K : PySem.W.Frag) : Sp := fun vs H Q _ => ∃ (m : Nat) (v : V) (as : List (List Int × Int)), vs = [.int (m : Int), v] ∧ AnsL H v as ∧ m ≤ 3 ∧ AnsOk m as ∧ as.length ≤ 100 ∧ ∀ H', Same H H' → Q (.bl true) H'
def spTold (K : PySem.W.Frag) : Sp := fun vs H Q _ => ∃ (m : Nat) (v : V) (as : List (List Int × Int)) (ts : List (List Int)), vs = [.int (m : Int), v] ∧ AnsL H v as ∧ m ≤ 3 ∧ AnsOk m as ∧ as.length ≤ 100 ∧ run (chs m) ((chs m).map fun _ => []) as = some ts ∧
  ∀ (l : Addr) (H' : Hp), Same H H' → ToldAt H' l (chs m) ts → Q (.ref l) H'
def spNextAsk (K : PySem.W.Frag) : Sp := fun vs H Q _ => ∃ (m : Nat) (v : V) (as : List (List Int × Int)) (ts : List (List Int)), vs = [.int (m : Int), v] ∧ AnsL H v as ∧ m ≤ 3 ∧ AnsOk m as ∧ as.length ≤ 100 ∧ run (chs m) ((chs m).map fun _ => []) as = some ts ∧
  (nextIn (chs m) ts = none → ∀ H', Same H H' → Q .non H') ∧ ∀ (i : Nat) (r : List Int) (u : Addr) (H' : Hp), nextIn (chs m) ts = some (i, r) → Same H H' → H' u = some (.tup (r.map V.int)) → Q (.ref u) H'
/-! ### lists that grow -/
theorem TupAt.updL {H : Hp} {v : V} {c : List Int} {D : Addr} {xs ys : List V} (h : TupAt H v c) (hD : H D = some (.lst xs)) : TupAt (L2.upd H D (.lst ys)) v c := by
  obtain ⟨a, e, ha⟩ := h
  refine ⟨a, e, ?_⟩
  rw [upd_ne]
  · exact ha
  · intro z
    subst z
    rw [ha] at hD
    cases hD
theorem tups_push {H : Hp} {D : Addr} {ds : List V} {L : List (List Int)} {y : V} {c : List Int} (hD : H D = some (.lst ds)) (h : Paired (TupAt H) ds L) (hy : TupAt H y c) : Paired (TupAt (L2.upd H D (.lst (ds ++ [y])))) (ds ++ [y]) (L ++ [c]) :=
  paired_snoc (hy.updL hD) (paired_imp (fun _ _ r => r.updL hD) h)
theorem tups_same {H H2 : Hp} {ds : List V} {L : List (List Int)} (h : Paired (TupAt H) ds L) (s : Same H H2) : Paired (TupAt H2) ds L := paired_imp (fun _ _ r => r.same s) h
theorem inV_ints (x : Int) (l : List Int) : inV (.int x) (l.map V.int) = decide (x ∈ l) := by
  unfold inV
  rw [List.any_map]
  induction l with
  | nil => rfl
  | cons y l ih =>
    rw [List.any_cons, ih]
    show (eqV (.int y) (.int x) || decide (x ∈ l)) = _
    have e : eqV (.int y) (.int x) = decide (x = y) := by
      show (y == x) = _
      rw [Bool.eq_iff_iff, beq_iff_eq, decide_eq_true_iff]
      exact eq_comm
    rw [e, Bool.eq_iff_iff, Bool.or_eq_true, decide_eq_true_iff, decide_eq_true_iff, decide_eq_true_iff, List.mem_cons]
theorem flat_ints (l : List Int) : (l.map V.int).all flatV = true := by
  rw [List.all_map]
  exact List.all_eq_true.mpr fun _ _ => rfl
theorem sum_01 : ∀ {c : List Int}, (∀ s ∈ c, s = 0 ∨ s = 1) → 0 ≤ c.sum ∧ c.sum ≤ c.length ∧ (1 ≤ c.sum ↔ (1 : Int) ∈ c)
  | [], _ => ⟨Int.le_refl _, Int.le_refl _, by simp⟩
  | s :: c, h => by
    obtain ⟨h1, h2, h3⟩ := sum_01 (c := c) fun x hx => h x (List.mem_cons_of_mem _ hx)
    rw [List.sum_cons, List.length_cons]
    rcases h s List.mem_cons_self with rfl | rfl
    · refine ⟨by omega, by omega, ?_⟩
      rw [List.mem_cons, ← h3]
      omega
    · refine ⟨by omega, by omega, ?_⟩
      simp
      omega
theorem paired_of {α β : Type} {R : α → β → Prop} : ∀ {xs : List α} {ys : List β} {i : Nat} {y : β}, Paired R xs ys → ys[i]? = some y → ∃ x, xs[i]? = some x ∧ R x y
  | _, _, 0, _, .cons r _, h => ⟨_, rfl, by cases Option.some.inj h; exact r⟩
  | _, _, i + 1, _, .cons _ t, h => by
    obtain ⟨x, h1, h2⟩ := paired_of (i := i) t h
    exact ⟨x, h1, h2⟩
  | _, _, _, _, .nil, h => nomatch h
theorem nextIn_step {cs ts : List (List Int)} {c t : List Int} {i : Nat} (hc : cs[i]? = some c) (ht : ts[i]? = some t) : nextIn (cs.drop i) (ts.drop i) = match askOf c t with
    | some a => some (0, a)
    | none => (nextIn (cs.drop (i + 1)) (ts.drop (i + 1))).map fun p => (p.1 + 1, p.2) := by
  have e1 : cs.drop i = c :: cs.drop (i + 1) := by
    rw [List.drop_eq_getElem_cons (List.getElem?_eq_some_iff.mp hc).1]
    congr 1
    exact (List.getElem?_eq_some_iff.mp hc).2
  have e2 : ts.drop i = t :: ts.drop (i + 1) := by
    rw [List.drop_eq_getElem_cons (List.getElem?_eq_some_iff.mp ht).1]
    congr 1
    exact (List.getElem?_eq_some_iff.mp ht).2
  rw [e1, e2]
  rfl
/-! ### lists by their addresses -/
def LAt (H : Hp) (a : Addr) (t : List Int) : Prop := H a = some (.lst (t.map V.int))
theorem lats_set {H : Hp} : ∀ {ads : List Addr} {ts : List (List Int)} {j : Nat} {a : Addr} {t : List Int}, ads.Nodup → Paired (LAt H) ads ts → ads[j]? = some a → Paired (LAt (L2.upd H a (.lst (t.map V.int)))) ads (ts.set j t)
  | [], _, _, _, _, _, _, h => nomatch h
  | b :: ads, u :: ts, 0, a, t, nd, .cons r p, h => by
    cases Option.some.inj h
    obtain ⟨n1, n2⟩ := List.nodup_cons.mp nd
    refine .cons upd_same ?_
    have keep : ∀ {ads : List Addr} {ts : List (List Int)}, b ∉ ads → Paired (LAt H) ads ts → Paired (LAt (L2.upd H b (.lst (t.map V.int)))) ads ts := by
      intro ads ts hn hp
      induction hp with
      | nil => exact .nil
      | cons r2 _ ih =>
        refine .cons ?_ (ih fun z => hn (List.mem_cons_of_mem _ z))
        show L2.upd H b _ _ = _
        rw [upd_ne fun z => hn (by rw [z]; exact List.mem_cons_self)]
        exact r2
    exact keep n1 p
  | b :: ads, u :: ts, j + 1, a, t, nd, .cons r p, h => by
    obtain ⟨n1, n2⟩ := List.nodup_cons.mp nd
    have h2 : ads[j]? = some a := h
    refine .cons ?_ (lats_set n2 p h2)
    show L2.upd H a _ b = _
    rw [upd_ne fun z => n1 (by rw [z]; exact List.mem_of_getElem? h2)]
    exact r
theorem lats_same {H H2 : Hp} {ads : List Addr} {ts : List (List Int)} (h : Paired (LAt H) ads ts) (s : Same H H2) : Paired (LAt H2) ads ts := paired_imp (fun _ _ r => s _ _ r) h
theorem lats_told {H : Hp} : ∀ {ads : List Addr} {ts : List (List Int)}, Paired (LAt H) ads ts → Paired (LstAt H) (ads.map V.ref) ts
  | _, _, .nil => .nil
  | _, _, .cons r p => .cons ⟨_, rfl, r⟩ (lats_told p)
theorem paired_set {α β : Type} {R : α → β → Prop} : ∀ {xs : List α} {ys : List β} {j : Nat} {y : β}, Paired R xs ys → (∀ x, xs[j]? = some x → R x y) → Paired R xs (ys.set j y)
  | _, _, _, _, .nil, _ => .nil
  | _, _, 0, _, .cons _ p, h => .cons (h _ rfl) p
  | _, _, j + 1, _, .cons r p, h => .cons r (paired_set p fun x hx => h x hx)
theorem ints_eqv : ∀ a b : List Int, PyData.eqvAll (a.map PyData.int) (b.map PyData.int) = decide (a = b)
  | [], [] => rfl
  | [], _ :: _ => rfl
  | _ :: _, [] => rfl
  | x :: a, y :: b => by
    show ((x == y) && PyData.eqvAll (a.map PyData.int) (b.map PyData.int)) = _
    rw [ints_eqv a b, Bool.eq_iff_iff]
    simp
theorem ints_shaped (l : List Int) : SeqAt.shaped (.tuple (l.map PyData.int)) = true ∧ SeqAt.shaped (.list (l.map PyData.int)) = true := by
  have h : PyData.canLayAll0 (l.map PyData.int) = true ∧ PyData.depthAll (l.map PyData.int) ≤ 0 := by
    induction l with
    | nil => exact ⟨rfl, Nat.le_refl _⟩
    | cons x l ih =>
      refine ⟨?_, ?_⟩
      · show (true && PyData.canLayAll0 (l.map PyData.int)) = true
        rw [ih.1]
        rfl
      · show max 0 (PyData.depthAll (l.map PyData.int)) ≤ 0
        have := ih.2
        omega
  have h2 := h.2
  refine ⟨?_, ?_⟩
  · show (PyData.canLayAll0 (l.map PyData.int) && decide (PyData.depthAll (l.map PyData.int) + 1 ≤ 64)) = true
    rw [h.1, decide_eq_true (by omega)]
    rfl
  · show (PyData.canLayAll0 (l.map PyData.int) && decide (PyData.depthAll (l.map PyData.int) + 1 ≤ 64)) = true
    rw [h.1, decide_eq_true (by omega)]
    rfl
theorem dp_ints {K : PySem.W.Frag} {H : Hp} : ∀ l : List Int, DpAll K H (l.map V.int) (l.map PyData.int)
  | [] => .nil
  | x :: l => .cons (.int x) (dp_ints l)
theorem lats_const {H : Hp} : ∀ {ads : List Addr} {cs : List (List Int)}, ads.length = cs.length → (∀ z ∈ ads, H z = some (.lst [])) → Paired (LAt H) ads (cs.map fun _ => [])
  | [], [], _, _ => .nil
  | a :: ads, c :: cs, h, k => .cons (k a List.mem_cons_self) (lats_const (by simpa using h) fun z hz => k z (List.mem_cons_of_mem _ hz))
  | [], _ :: _, h, _ => by simp at h
  | _ :: _, [], h, _ => by simp at h
theorem okT_const : ∀ cs : List (List Int), Paired OkT cs (cs.map fun _ => [])
  | [] => .nil
  | c :: cs => .cons (OkT.nil c) (okT_const cs)
theorem drop_at {α : Type} {xs : List α} {i : Nat} {x : α} (h : xs[i]? = some x) : xs.drop i = x :: xs.drop (i + 1) := by
  rw [List.drop_eq_getElem_cons (List.getElem?_eq_some_iff.mp h).1]
  congr 1
  exact (List.getElem?_eq_some_iff.mp h).2
end TG
namespace TF52
open PySem PySem.Spec L2 TG TA
open PyProof.Rows hiding St
/-! ### how many numbers, and their choices -/
abbrev sCM : Stmt := top 19
abbrev sChs : Stmt := top 28
theorem scCM : FnScope ["many"] ["many"] (defScope sCM) := ⟨rfl, rfl, rfl, by decide +kernel, rfl, by decide +kernel, by decide +kernel⟩
theorem scChs : FnScope ["many", "found", "_", "choice", "sign"] ["many"] (defScope sChs) := ⟨rfl, rfl, rfl, by decide +kernel, rfl, by decide +kernel, by decide +kernel⟩
section
variable {P : Program} {w : World} {K : PySem.W.Frag} {mg : Str → Option Value} {base : Heap} {f f1 : Addr} {fd fd1 : FuncData}
theorem ok_cm (F : Fun K "check_many" "check_many" sCM f fd) (T : Bn mg) (M3 : ∃ t, mg "MOST_NUMBERS" = some (.int 3 t)) (D_is_within : Df K mg "is_within" sWithin f1 fd1 ["value", "least", "most"]) (G_is_within : FnOk P w K mg base CX0 2 f1 fd1 ["value", "least", "most"] (spWithin K)) : FnOk P w K mg base CX0 3 f fd ["many"] spCM := by
  refine F.ok scCM (fun vs H Q E h => ?_) (fun cdv A outer s H vs Q E hr h => ?_)
  · obtain ⟨m, rfl, _⟩ := h
    rfl
  obtain ⟨m, rfl, hm, q⟩ := h
  obtain ⟨t3, gM3⟩ := M3
  refine ⟨_, (pss_one (ps_if (pt_not (pt_val (pe_cd D_is_within G_is_within hr (by decide) (pa_cons (pv 0) (pa_cons pe_int (pa_cons (pe_glob (v := .int 3) rfl gM3 ⟨_, rfl⟩) pa_nil)))))) (pss_one ps_never) pss_nil)), ?_⟩
  refine ⟨_, rfl, _, _, _, _, rfl, HasTy.int _, .inr ⟨_, rfl⟩, .inr ⟨_, rfl⟩, _, rfl, ?_⟩
  rw [show withinV (.int (m : Int)) (.int 0) (.int 3) = true from by show (decide ((0 : Int) ≤ m) && decide ((m : Int) ≤ 3)) = true; rw [decide_eq_true (by omega), decide_eq_true (by omega)]; rfl]
  exact iteF q
theorem ok_chs (F : Fun K "choices" "choices" sChs f fd) (T : Bn mg) (D_check_many : Df K mg "check_many" sCM f1 fd1 ["many"]) (G_check_many : FnOk P w K mg base CX0 3 f1 fd1 ["many"] spCM) : FnOk P w K mg base CX0 4 f fd ["many"] spChs := by
  refine F.ok scChs (fun vs H Q E h => ?_) (fun cdv A outer s H vs Q E hr h => ?_)
  · obtain ⟨m, rfl, _⟩ := h
    rfl
  obtain ⟨m, rfl, hm, q⟩ := h
  refine ⟨_, (pss_cons (ps_expr (pe_cd D_check_many G_check_many hr (by decide) (pa_cons (pv 0) pa_nil)))
    (pss_cons (ps_set (i := 1) scChs.nd rfl (.inl rfl) (pe_lst (pa_cons (pe_tup pa_nil) pa_nil)))
    (pss_cons (ps_for PassesOwn.never rfl (pi_range1 (by rfl) T.b_range (pa_cons (pv 0) pa_nil)) (pg_name (i := 2) scChs.nd rfl (.inl rfl))
      (pss_one (ps_setLc2 (i := 1) (own := [("choice", 3), ("sign", 4)]) (vs1 := [4]) (g := gName 3) (g1 := gName 4) rfl scChs.nd rfl rfl (sw_true rfl rfl rfl (by decide +kernel)) (pi_list (pv 1))
        (blkOk_by (own := [("choice", 3), ("sign", 4)]) (N := ["many", "found", "_", "choice", "sign"]) (sc := defScope sChs) (by decide +kernel)) (by decide)
        (fun _ _ _ _ _ => pg_name (i := 3) scChs.nd rfl (.inl rfl)) (fun _ _ _ _ _ => pts_nil) (fun _ _ _ _ _ => show PI _ _ _ (iTup K _) from pi_tup (pe_tup (pa_cons pe_int (pa_cons pe_int pa_nil))))
        (fun _ _ _ _ _ => pg_name (i := 4) scChs.nd rfl (.inl rfl)) (fun _ _ _ _ _ => pts_nil) (fun _ _ _ _ _ => pe_op (show OpR _ _ (rCatA K) from op_catA) (pv 3) (pe_tup (pa_cons (pv 4) pa_nil))))))
    (pss_one (ps_ret (pe_callTy call_tuple_of (by rfl) T.b_tuple (by decide +kernel) (pa_cons (pv 1) pa_nil))))))), ?_⟩
  refine ⟨_, rfl, m, rfl, hm, (by show 0 ≤ sizeLine; decide), fun t0 ht0 => ⟨(by show 1 ≤ sizeLine; decide), fun l0 hl0 => ?_⟩⟩
  have s0 := (new_same (o := .tup []) ht0).trans (new_same (o := .lst [.ref t0]) hl0)
  have t00 := new_same (o := .lst [.ref t0]) hl0 _ _ (upd_same (H := H) (a := t0) (o := .tup []))
  have l00 : (L2.upd (L2.upd H t0 (.tup [])) l0 (.lst [.ref t0])) l0 = some (.lst [.ref t0]) := upd_same
  generalize L2.upd (L2.upd H t0 (.tup [])) l0 (.lst [.ref t0]) = H1 at s0 t00 l00 ⊢
  refine ⟨_, rfl, (m : Int), rfl, by omega, by omega, ?_⟩
  refine for_range (lo := 0) (n := (m : Int).toNat) (fun k σ G => ∃ (l : Addr) (rs : List V) (v2 v3 v4 : Option V), σ = [some (.int (m : Int)), some (.ref l), v2, v3, v4] ∧ G l = some (.lst rs) ∧ Paired (TupAt G) rs (chs k) ∧ Same H1 G)
    ⟨l0, [.ref t0], _, _, _, rfl, l00, .cons ⟨t0, rfl, t00⟩ .nil, fun _ _ e => e⟩ ?_ ?_
  · rintro k σ G hk ⟨l, rs, v2, v3, v4, rfl, hl, hrs, s1⟩
    have hk3 : k < 3 := by omega
    obtain ⟨hlen, _, _⟩ := chs_ok k (by omega)
    refine ⟨_, rfl, l, rfl, ⟨_, SqL.of hl⟩, fun D hD => ?_⟩
    refine walk_in (walk_list (K := K) (a := l) (xs := rs)) (fun j G2 => Same G G2 ∧ ∃ ds, G2 D = some (.lst ds) ∧ ds.length ≤ 2 * j ∧ Paired (TupAt G2) ds (((chs k).take j).flatMap fun c => [c ++ [0], c ++ [1]])) ?_ ?_ ?_ ?_
    · exact ⟨new_same hD, [], upd_same, Nat.zero_le _, .nil⟩
    · rintro j G2 _ ⟨s2, _⟩
      exact SqL.of (s2 _ _ hl)
    · rintro j x _ G2 hj ⟨s2, ds, hds, lds, pds⟩ ⟨rfl, hx⟩
      obtain ⟨c, hc, hxc⟩ := TG.paired_get hrs hx
      have hj8 : j < 8 := by
        have := (List.getElem?_eq_some_iff.mp hc).1
        omega
      refine ⟨rfl, (by show 2 ≤ sizeLine; decide), fun t ht => ⟨t, rfl, ⟨_, SqT.of upd_same⟩, ?_⟩⟩
      have s3 := new_same (o := .tup [.int 0, .int 1]) ht
      have ht3 : (L2.upd G2 t (.tup [.int 0, .int 1])) t = some (.tup [.int 0, .int 1]) := upd_same
      have hds3 := s3 _ _ hds
      have pds3 := tups_same pds s3
      have hx3 := (hxc.same s2).same s3
      have s23 := s2.trans s3
      generalize L2.upd G2 t (.tup [.int 0, .int 1]) = G3 at s3 ht3 hds3 pds3 hx3 s23 ⊢
      have hDG : ∀ {G4 : Hp}, Same G G4 → ∀ o, Same G (L2.upd G4 D o) := fun s o => same_put s hD
      refine walk_in (walk_tup (K := K) (a := t) (xs := [.int 0, .int 1])) (fun i G4 => Same G G4 ∧ G4 t = some (.tup [.int 0, .int 1]) ∧ TupAt G4 x c ∧ ∃ ds2, G4 D = some (.lst ds2) ∧ ds2.length ≤ 2 * j + i ∧ Paired (TupAt G4) ds2 ((((chs k).take j).flatMap fun c => [c ++ [0], c ++ [1]]) ++ ([c ++ [0], c ++ [1]]).take i)) ?_ ?_ ?_ ?_
      · exact ⟨s23, ht3, hx3, ds, hds3, lds, by rw [List.take_zero, List.append_nil]; exact pds3⟩
      · rintro i G4 _ ⟨_, h, _⟩
        exact SqT.of h
      · rintro i y _ G4 hi ⟨s4, h4, hx4, ds2, hd2, l2, p2⟩ ⟨rfl, hy⟩
        have hi2 : i < 2 := hi
        have ntD : t ≠ D := fun z => by
          rw [z, hd2] at h4
          cases h4
        obtain ⟨s, hs, rfl⟩ : ∃ s : Int, ([c ++ [0], c ++ [1]] : List (List Int))[i]? = some (c ++ [s]) ∧ y = .int s := by
          match i, hi, hy with
          | 0, _, hy => exact ⟨0, rfl, (Option.some.inj hy).symm⟩
          | 1, _, hy => exact ⟨1, rfl, (Option.some.inj hy).symm⟩
        obtain ⟨ac, rfl, hac⟩ := hx4
        refine ⟨rfl, _, rfl, _, rfl, (by show 1 ≤ sizeLine; decide), fun u hu => ?_⟩
        have s5 := new_same (o := .tup [.int s]) hu
        have big : ds2.length < sizeLine := small1000 (by omega)
        have fin : ∀ (G6 : Hp) (z : V), Same G4 G6 → TupAt G6 z (c ++ [s]) → ∃ acc, G6 D = some (.lst acc) ∧ acc.length < sizeLine ∧ Same G (L2.upd G6 D (.lst (acc ++ [z]))) ∧ (L2.upd G6 D (.lst (acc ++ [z]))) t = some (.tup [.int 0, .int 1]) ∧ TupAt (L2.upd G6 D (.lst (acc ++ [z]))) (.ref ac) c ∧
            ∃ ds3, (L2.upd G6 D (.lst (acc ++ [z]))) D = some (.lst ds3) ∧ ds3.length ≤ 2 * j + (i + 1) ∧ Paired (TupAt (L2.upd G6 D (.lst (acc ++ [z])))) ds3 ((((chs k).take j).flatMap fun c => [c ++ [0], c ++ [1]]) ++ ([c ++ [0], c ++ [1]]).take (i + 1)) := by
          intro G6 z s6 hz
          have hd6 := s6 _ _ hd2
          refine ⟨ds2, hd6, big, hDG (s4.trans s6) _, ?_, (TupAt.same ⟨ac, rfl, hac⟩ s6).updL hd6, ds2 ++ [z], upd_same, by rw [List.length_append]; show ds2.length + 1 ≤ _; omega, ?_⟩
          · rw [upd_ne ntD]
            exact s6 _ _ h4
          · rw [take_more hs, ← List.append_assoc]
            exact tups_push hd6 (tups_same p2 s6) hz
        refine ⟨ac, u, _, _, rfl, rfl, SqT.of (s5 _ _ hac), SqT.of upd_same, ?_, fun e => ?_, fun _ e => absurd e (List.cons_ne_nil _ _), fun _ _ p hp => ?_⟩
        · have hcl := (chs_ok k (by omega)).2.2 c (List.mem_of_getElem? hc)
          rw [List.length_map, hcl.1]
          exact Nat.le_of_lt (small1000 (by show k + 1 ≤ 1000; omega))
        · have e2 : c = [] := List.map_eq_nil_iff.mp e
          subst e2
          exact fin _ _ s5 ⟨u, rfl, upd_same⟩
        · refine fin _ _ (s5.trans (new_same hp)) ⟨p, rfl, ?_⟩
          rw [upd_same, List.map_append]
          rfl
      · rintro G4 ⟨s4, _, _, ds2, hd2, l2, p2⟩
        refine ⟨s4, ds2, hd2, by show ds2.length ≤ _; exact l2, ?_⟩
        rw [take_more hc, List.flatMap_append]
        simpa using p2
    · rintro G2 ⟨s2, ds, hds, lds, pds⟩
      refine ⟨D, ds, _, _, _, rfl, hds, ?_, s1.trans s2⟩
      rw [TG.paired_len hrs, List.take_length] at pds
      exact pds
  · rintro σ G ⟨l, rs, v2, v3, v4, rfl, hl, hrs, s1⟩
    rw [Int.toNat_natCast] at hrs
    refine ⟨_, rfl, l, _, rfl, .inl ⟨SqL.of hl, fun p hp => ?_⟩⟩
    exact q p rs _ ((s0.trans s1).trans (new_same hp)) upd_same (tups_same hrs (new_same hp))
end
end TF52
namespace TF52
open PySem PySem.Spec L2 TG TA
open PyProof.Rows hiding St
/-! ### powers of a number, one behind the other -/
abbrev sLad : Stmt := top 38
theorem scLad : FnScope ["number", "most", "found", "_"] ["number", "most"] (defScope sLad) := ⟨rfl, rfl, rfl, by decide +kernel, rfl, by decide +kernel, by decide +kernel⟩
theorem pow_abs {n : Int} {e : Nat} (h0 : 0 ≤ n) (h : n ≤ 2 ^ e) (j : Nat) : (n ^ j).natAbs < 2 ^ (e * j + 1) := by
  have h1 : n.natAbs ≤ 2 ^ e := by
    have h3 : ((2 ^ e : Nat) : Int) = (2 : Int) ^ e := by rw [Int.natCast_pow]; rfl
    omega
  rw [Int.natAbs_pow, Nat.pow_succ, Nat.pow_mul]
  have := Nat.pow_le_pow_left h1 j
  have p : 0 < (2 ^ e) ^ j := Nat.pow_pos (Nat.pow_pos (by decide))
  omega
section
variable {P : Program} {w : World} {K : PySem.W.Frag} {mg : Str → Option Value} {base : Heap} {f : Addr} {fd : FuncData}
theorem ok_lad (F : Fun K "ladder" "ladder" sLad f fd) (T : Bn mg) : FnOk P w K mg base CX0 1 f fd ["number", "most"] spLad := by
  refine F.ok scLad (fun vs H Q E h => ?_) (fun cdv A outer s H vs Q E hr h => ?_)
  · obtain ⟨n, k, e, rfl, _⟩ := h
    rfl
  obtain ⟨n, k, e, rfl, n0, ne, ek, he, hk, q⟩ := h
  refine ⟨_, (pss_cons (ps_set (i := 2) scLad.nd rfl (.inl rfl) (pe_lst (pa_cons pe_int pa_nil)))
      (pss_cons (ps_for PassesOwn.never rfl (pi_range1 (by rfl) T.b_range (pa_cons (pv 1) pa_nil)) (pg_name (i := 3) scLad.nd rfl (.inl rfl))
        (pss_one (ps_expr (pe_bm PySem.F.plainAttrs_list PySem.F.slot_list_append PySem.F.type_list_append mt_append (pv 2) (pa_cons (pe_op op_mulW (pe_ix ix_list (pv 2) (pe_un un_neg pe_int) (fun _ _ => rfl)) (pv 0)) pa_nil)))))
      (pss_one (ps_ret (pv 2))))), ?_⟩
  refine ⟨(by show 1 ≤ sizeLine; decide), fun l hl => ?_⟩
  refine ⟨_, rfl, (k : Int), rfl, by omega, by omega, ?_⟩
  have el : ∀ j, (List.range (j + 1)).map (fun i => V.int (n ^ i)) = (List.range j).map (fun i => V.int (n ^ i)) ++ [V.int (n ^ j)] := fun j => by rw [List.range_succ, List.map_append]; rfl
  refine for_range (lo := 0) (n := (k : Int).toNat) (fun j σ G => (∃ v3, σ = [some (.int n), some (.int (k : Int)), some (.ref l), v3]) ∧ G l = some (.lst ((List.range (j + 1)).map fun i => V.int (n ^ i))) ∧ Same H G) ⟨⟨_, rfl⟩, (by rw [upd_same]; show some (HO.lst [V.int 1]) = some (HO.lst [V.int (n ^ 0)]); rw [Int.pow_zero]), new_same hl⟩ ?_ ?_
  · rintro j σ G hj ⟨⟨v3, rfl⟩, hg, sg⟩
    have hj2 : j < k := by omega
    have h1 := hg
    rw [el j] at h1
    have ej : e * j ≤ e * k := Nat.mul_le_mul_left e (Nat.le_of_lt hj2)
    refine ⟨_, rfl, .inl ⟨rfl, _, SqL.of hg⟩, _, rfl, _, rfl, l, _, _, _, rfl, rfl, SqL.of h1, atI_last _ _, _, rfl, _, _, rfl, rfl, ?_, l, _, _, rfl, rfl, hg, ?_, ⟨_, rfl⟩, ?_, same_put sg hl⟩
    · have m1 := pow_abs n0 ne j
      have m2 := pow_abs n0 ne 1
      rw [Int.pow_one] at m2
      exact wide_mul m1 m2 (by omega) (by omega) (by omega)
    · rw [List.length_map, List.length_range]
      exact small_le (by omega)
    · rw [upd_same, el (j + 1)]
      rw [Int.pow_succ]
  · rintro σ G ⟨⟨v3, rfl⟩, hg, sg⟩
    rw [Int.toNat_natCast] at hg
    exact ⟨_, rfl, q l G sg hg⟩
end
end TF52
namespace TF52
open PySem PySem.Spec L2 TG TA
open PyProof.Rows hiding St
/-! ### what is to be asked of a choice -/
abbrev sBase : Stmt := top 73
abbrev sAsked : Stmt := top 72
theorem scBase : FnScope ["first"] ["first"] (defScope sBase) := ⟨rfl, rfl, rfl, by decide +kernel, rfl, by decide +kernel, by decide +kernel⟩
theorem scAsked : FnScope ["choice", "values", "sign", "asked", "number", "step"] ["choice", "values"] (defScope sAsked) := ⟨rfl, rfl, rfl, by decide +kernel, rfl, by decide +kernel, by decide +kernel⟩
section
variable {P : Program} {w : World} {K : PySem.W.Frag} {mg : Str → Option Value} {base : Heap} {f f1 f2 : Addr} {fd fd1 fd2 : FuncData}
theorem ok_base (F : Fun K "base_of" "base_of" sBase f fd) (T : Bn mg) : FnOk P w K mg base CX0 1 f fd ["first"] spBase := by
  refine F.ok scBase (fun vs H Q E h => ?_) (fun cdv A outer s H vs Q E hr h => ?_)
  · obtain ⟨v, rfl, _⟩ := h
    rfl
  obtain ⟨v, rfl, q⟩ := h
  refine ⟨_, (pss_one (ps_ret (pe_tup (pa_cons (pe_op op_add (pv 0) pe_int) (pa_cons (pe_bits (pv 0) ) pa_nil))))), ?_⟩
  exact ⟨_, rfl, _, _, rfl, rfl, _, rfl, _, rfl, (by show 2 ≤ sizeLine; decide), fun p hp => q p _ (new_same hp) upd_same⟩
theorem ok_asked (F : Fun K "asked_of" "asked_of" sAsked f fd) (T : Bn mg) (D_base_of : Df K mg "base_of" sBase f1 fd1 ["first"]) (G_base_of : FnOk P w K mg base CX0 1 f1 fd1 ["first"] spBase)
    (D_ladder : Df K mg "ladder" sLad f2 fd2 ["number", "most"]) (G_ladder : FnOk P w K mg base CX0 1 f2 fd2 ["number", "most"] spLad) : FnOk P w K mg base CX0 2 f fd ["choice", "values"] spAsked := by
  refine F.ok scAsked (fun vs H Q E h => ?_) (fun cdv A outer s H vs Q E hr h => ?_)
  · obtain ⟨a, l, c, t, rfl, _⟩ := h
    rfl
  obtain ⟨a, l, c, t, rfl, ha, hl, h01, h3, hok, q0, q1⟩ := h
  refine ⟨_, (pss_cons (ps_if (pt_not (pt_truth (pv 1) (by intro _; rfl))) (pss_one (ps_ret (pe_callTy call_tuple_of (by rfl) T.b_tuple (by decide +kernel) (pa_cons (pe_lc (own := [("sign", 2)]) (g := (gName 2)) (by rfl) scAsked.nd (pi_tup (pv 0)) (blkOk_by (own := [("sign", 2)]) (N := ["choice", "values", "sign", "asked", "number", "step"]) (sc := defScope sAsked) (by decide +kernel)) (fun _ _ _ _ _ => (pg_name (i := 2) scAsked.nd rfl (.inl rfl))) (fun _ _ _ _ _ => pts_nil) (fun _ _ _ _ _ => (pe_op op_mul pe_int (pv 2)))) pa_nil)))) pss_nil)
      (pss_cons (ps_if (PW.pt (pw_or (pt_cmpR op_notIn_seq pe_int (pv 0) (by rfl)) (pw_or (pt_cmpR op_eq (pe_callB call_len_seq (by rfl) T.b_len (by decide +kernel) (pa_cons (pv 1) pa_nil)) pe_int (nomark _)) (pw_or1 (pt_cmpR op_lt (pe_ix ix_list (pv 1) pe_int (fun _ _ => rfl)) pe_int (nomark _)))))) (pss_one (ps_ret pe_non)) pss_nil)
      (pss_cons (ps_set (i := 3) scAsked.nd rfl (.inl rfl) (pe_lst pa_nil))
      (pss_cons (ps_asg (pe_cd D_base_of G_base_of hr (by decide) (pa_cons (pe_ix ix_list (pv 1) pe_int (fun _ _ => rfl)) pa_nil)) (pg_tup (by rfl) (pgs_cons (pg_name (i := 4) scAsked.nd rfl (.inl rfl)) (pgs_cons (pg_name (i := 5) scAsked.nd rfl (.inl rfl)) pgs_nil))))
      (pss_cons (ps_for PassesOwn.never rfl (pi_tup (pv 0)) (pg_name (i := 2) scAsked.nd rfl (.inl rfl))
        (pss_cons (ps_expr (pe_bm PySem.F.plainAttrs_list PySem.F.slot_list_append PySem.F.type_list_append mt_append (pv 3) (pa_cons (pe_op op_mulW (pv 4) (pv 2)) pa_nil)))
        (pss_one (ps_if (pt_cmpR op_eq (pv 2) pe_int (nomark _)) (pss_one (ps_set (i := 4) scAsked.nd rfl (.inl rfl) (pe_ix ix_list (pe_cd D_ladder G_ladder hr (by decide) (pa_cons (pv 4) (pa_cons (pv 5) pa_nil))) (pv 5) (fun _ _ => rfl)))) pss_nil))))
      (pss_one (ps_ret (pe_callTy call_tuple_of (by rfl) T.b_tuple (by decide +kernel) (pa_cons (pv 3) pa_nil))))))))), ?_⟩
  have c4 : c.length < 4 := by omega
  have szl : ∀ ns : List Int, ns.length ≤ 3 → (ns.map V.int).length < sizeLine := fun ns h => by rw [List.length_map]; exact small1000 (by omega)
  refine ⟨_, rfl, _, .inl ⟨_, SqL.of hl, rfl⟩, ?_⟩
  cases t with
  | nil =>
    refine iteT ⟨_, rfl, a, rfl, ⟨_, SqT.of ha⟩, fun D hD => ?_⟩
    refine lc_tup (K := K) (a := a) (xs := c.map V.int) (fun i G => Same H G ∧ G D = some (.lst (((c.map fun s => 2 * s).take i).map V.int))) ?_ ?_ ?_ ?_
    · exact ⟨new_same hD, upd_same⟩
    · rintro i G _ ⟨s1, _⟩
      exact SqT.of (s1 _ _ ha)
    · rintro i x G hx ⟨s1, hg⟩
      rw [List.getElem?_map] at hx
      obtain ⟨s, hs, rfl⟩ := Option.map_eq_some_iff.mp hx
      refine ⟨rfl, _, rfl, _, _, rfl, rfl, .inl ⟨by decide, by decide⟩, _, hg, szl _ ?_, same_put s1 hD, ?_⟩
      · rw [List.length_take, List.length_map]
        omega
      · rw [upd_same, take_more (x := 2 * s) (by rw [List.getElem?_map, hs]; rfl), List.map_append]
        rfl
    · rintro G ⟨s1, hg⟩
      rw [List.length_map, List.take_of_length_le (by rw [List.length_map]; exact Nat.le_refl _)] at hg
      exact ⟨D, _, rfl, .inl ⟨SqL.of hg, fun p hp => q1 _ p _ rfl (s1.trans (new_same hp)) upd_same⟩⟩
  | cons v t =>
  refine iteF ?_
  refine ⟨_, rfl, a, _, rfl, .inr (SqT.of ha), rfl, flat_ints c, _, rfl, ?_⟩
  rw [if_pos rfl, inV_ints]
  have two : ∀ x w : Int, t = w :: [] → askOf c (v :: t) = none := fun _ w e => by rw [e]; rfl
  by_cases h1 : (1 : Int) ∈ c
  case neg =>
    rw [decide_eq_false h1]
    refine iteT (q0 ?_ H fun _ _ e => e)
    cases t with
    | nil =>
      show (if (1 : Int) ∈ c ∧ ¬ v < 2 then _ else none) = none
      rw [if_neg fun z => h1 z.1]
    | cons w t => rfl
  rw [decide_eq_true h1]
  refine iteF ⟨_, rfl, l, _, rfl, .inl (SqL.of hl), rfl, _, rfl, ?_⟩
  cases t with
  | cons w t =>
    have e2 : t = [] := by
      have := hok.1
      exact List.eq_nil_of_length_eq_zero (by simp only [List.length_cons] at this; omega)
    subst e2
    exact iteT (q0 rfl H fun _ _ e => e)
  | nil =>
  refine iteF ⟨_, rfl, l, _, _, _, rfl, rfl, SqL.of hl, atI_nat (j := 0) rfl, _, _, rfl, rfl, _, rfl, ?_⟩
  by_cases v2 : v < 2
  · rw [decide_eq_true v2]
    refine iteT (q0 ?_ H fun _ _ e => e)
    show (if (1 : Int) ∈ c ∧ ¬ v < 2 then _ else none) = none
    rw [if_neg fun z => z.2 v2]
  rw [decide_eq_false v2]
  have eask : askOf c [v] = some (second c (v + 1) (Builtin.Int.intBits v)) := by
    show (if (1 : Int) ∈ c ∧ ¬ v < 2 then _ else none) = _
    rw [if_pos ⟨h1, v2⟩]
  obtain ⟨v0, vm⟩ := hok.2 v rfl
  obtain ⟨b1, b2, b3⟩ := bits_gt (v := v) (by omega)
  obtain ⟨u1, u2, u3⟩ := sum_01 h01
  have u4 := u3.mpr h1
  have size := size_ok h01 (by omega) (by omega) v0 vm
  obtain ⟨k, ek⟩ : ∃ k, k = Builtin.Int.intBits v := ⟨_, rfl⟩
  rw [← ek] at b1 b2 b3 size eask
  refine iteF ⟨(by show 0 ≤ sizeLine; decide), fun d hd => ⟨_, rfl, l, _, _, _, rfl, rfl, SqL.of (new_same hd _ _ hl), atI_nat (j := 0) rfl, v, rfl, fun p H1 s1 hp1 => ⟨p, _, rfl, SqT.of hp1, rfl, _, _, rfl, _, _, rfl, rfl, ?_⟩⟩⟩
  rw [← ek] at hp1
  have hd1 := s1 _ _ (upd_same (H := H) (a := d) (o := .lst []))
  have sH := (new_same (o := .lst []) hd).trans s1
  have k1 : 1 ≤ k := by omega
  refine ⟨_, rfl, a, rfl, ⟨_, SqT.of (sH _ _ ha)⟩, ?_⟩
  refine for_tup (K := K) (a := a) (xs := c.map V.int) (fun j σ G => ∃ (n : Int) (e : Nat) (w : Option V) (acc : List Int), σ = [some (.ref a), some (.ref l), w, some (.ref d), some (.int n), some (.int (k : Int))] ∧ G d = some (.lst (acc.map V.int)) ∧ acc.length = j ∧
    second c (v + 1) k = acc ++ second (c.drop j) n k ∧ 0 ≤ n ∧ n ≤ 2 ^ e ∧ e * k ^ (c.drop j).sum.toNat ≤ 4100 ∧ Same H G) ?_ ?_ ?_ ?_
  · exact ⟨v + 1, k, _, [], (by rw [ek]; rfl), hd1, rfl, rfl, by omega, b2, by rw [List.drop_zero]; exact size, sH⟩
  · rintro j σ G _ ⟨_, _, _, _, _, _, _, _, _, _, _, sg⟩
    exact SqT.of (sg _ _ ha)
  · rintro j x σ G hx ⟨n, e, w, acc, rfl, hg, la, ha2, n0, ne, es, sg⟩
    rw [List.getElem?_map] at hx
    obtain ⟨s, hs, rfl⟩ := Option.map_eq_some_iff.mp hx
    have hj := (List.getElem?_eq_some_iff.mp hs).1
    have ed : c.drop j = s :: c.drop (j + 1) := by
      rw [List.drop_eq_getElem_cons hj]
      congr 1
      exact (List.getElem?_eq_some_iff.mp hs).2
    have sub : ∀ y ∈ c.drop (j + 1), y = 0 ∨ y = 1 := fun y hy => h01 y (List.mem_of_mem_drop hy)
    obtain ⟨w1, w2, _⟩ := sum_01 sub
    rw [ed] at ha2 es
    have kp : 1 ≤ k ^ (c.drop (j + 1)).sum.toNat := Nat.one_le_pow _ _ k1
    have kk : 1 ≤ k ^ (s :: c.drop (j + 1)).sum.toNat := Nat.one_le_pow _ _ k1
    have el : e ≤ 4100 := Nat.le_trans (Nat.le_mul_of_pos_right e kk) es
    have s01 := h01 s (List.mem_of_getElem? hs)
    refine ⟨_, rfl, .inl ⟨rfl, _, SqL.of hg⟩, _, rfl, _, rfl, _, _, rfl, rfl, ?_, d, _, _, rfl, rfl, hg, szl acc (by omega), ?_⟩
    · have m1 := pow_abs n0 ne 1
      rw [Int.pow_one] at m1
      refine wide_mul m1 (b := 2) ?_ (by omega) (by omega) (by omega)
      rcases s01 with rfl | rfl <;> decide
    have hup : (L2.upd G d (.lst (acc.map V.int ++ [.int (n * s)]))) d = some (.lst ((acc ++ [n * s]).map V.int)) := by rw [upd_same, List.map_append]; rfl
    have sup : Same H (L2.upd G d (.lst (acc.map V.int ++ [.int (n * s)]))) := same_put sg hd
    generalize L2.upd G d (.lst (acc.map V.int ++ [.int (n * s)])) = G2 at hup sup ⊢
    have eacc : second c (v + 1) k = (acc ++ [n * s]) ++ second (c.drop (j + 1)) (if s = 1 then n ^ k else n) k := by
      rw [ha2, List.append_assoc]
      rfl
    refine ⟨_, rfl, rfl, _, rfl, ?_⟩
    rcases s01 with rfl | rfl
    · refine iteF ⟨n, e, _, acc ++ [n * 0], rfl, hup, by rw [List.length_append, la]; rfl, eacc, n0, ne, ?_, sup⟩
      rw [List.sum_cons, Int.zero_add] at es
      exact es
    · rw [List.sum_cons] at es
      have e2 : (1 + (c.drop (j + 1)).sum).toNat = (c.drop (j + 1)).sum.toNat + 1 := by omega
      rw [e2, Nat.pow_succ, Nat.mul_comm (k ^ _) k, ← Nat.mul_assoc] at es
      have ek4 : e * k ≤ 4100 := Nat.le_trans (Nat.le_mul_of_pos_right _ kp) es
      have k4 : k ≤ 4100 := by
        have : k * 1 ≤ k * k ^ c.sum.toNat := Nat.mul_le_mul_left k (Nat.one_le_pow _ _ k1)
        omega
      refine iteT ⟨_, rfl, _, rfl, n, k, e, rfl, n0, ne, by omega, by omega, by omega, fun q2 G3 s3 h3' => ?_⟩
      refine ⟨_, rfl, q2, _, _, _, rfl, rfl, SqL.of h3', atI_nat (j := k) (by rw [List.getElem?_map, List.getElem?_range (Nat.lt_succ_self k)]; rfl), ?_⟩
      refine ⟨n ^ k, e * k, _, acc ++ [n * 1], rfl, s3 _ _ hup, by rw [List.length_append, la]; rfl, eacc, Int.pow_nonneg n0, ?_, es, sup.trans s3⟩
      have m1 := pow_abs n0 ne k
      have p1 : 0 ≤ n ^ k := Int.pow_nonneg n0
      have p2 : (n ^ k) ≤ (2 ^ e) ^ k := by
        have h5 : ∀ (x y : Int) (i : Nat), 0 ≤ x → x ≤ y → x ^ i ≤ y ^ i := by
          intro x y i h0 hxy
          induction i with
          | zero => rw [Int.pow_zero, Int.pow_zero]; exact Int.le_refl 1
          | succ i ih => rw [Int.pow_succ, Int.pow_succ]; exact Int.mul_le_mul ih hxy h0 (Int.pow_nonneg (Int.le_trans h0 hxy))
        exact h5 _ _ k n0 ne
      rw [← Int.pow_mul] at p2
      exact p2
  · rintro σ G ⟨n, e, w, acc, rfl, hg, la, ha2, n0, ne, es, sg⟩
    rw [List.length_map] at la ha2
    rw [List.drop_length] at ha2
    have e3 : second c (v + 1) k = acc := by rw [ha2]; exact List.append_nil _
    refine ⟨_, rfl, d, _, rfl, .inl ⟨SqL.of hg, fun p2 hp2 => q1 _ p2 _ eask (sg.trans (new_same hp2)) ?_⟩⟩
    rw [upd_same, e3]
end
end TF52
namespace TF52
open PySem PySem.Spec L2 TG TA
open PyProof.Rows hiding St
/-! ### what is to be asked next -/
abbrev sNext : Stmt := top 71
abbrev sRef : Stmt := top 74
theorem scNext : FnScope ["many", "told", "at", "choice", "asked"] ["many", "told"] (defScope sNext) := ⟨rfl, rfl, rfl, by decide +kernel, rfl, by decide +kernel, by decide +kernel⟩
theorem scRef : FnScope ["choice", "values", "value", "most"] ["choice", "values", "value"] (defScope sRef) := ⟨rfl, rfl, rfl, by decide +kernel, rfl, by decide +kernel, by decide +kernel⟩
/-- the greatest first values, a tuple of the top -/
def FvAt (K : PySem.W.Frag) (aF : Addr) : Prop := ∀ H, SqT K H aF [.non, .int 1000000000000000000, .int 10000, .int 200]
section
variable {P : Program} {w : World} {K : PySem.W.Frag} {mg : Str → Option Value} {base : Heap} {f f1 f2 : Addr} {fd fd1 fd2 : FuncData}
theorem ok_next (F : Fun K "next_in" "next_in" sNext f fd) (T : Bn mg) (D_choices : Df K mg "choices" sChs f1 fd1 ["many"]) (G_choices : FnOk P w K mg base CX0 4 f1 fd1 ["many"] spChs)
    (D_asked_of : Df K mg "asked_of" sAsked f2 fd2 ["choice", "values"]) (G_asked_of : FnOk P w K mg base CX0 2 f2 fd2 ["choice", "values"] spAsked) : FnOk P w K mg base CX0 5 f fd ["many", "told"] spNext := by
  refine F.ok scNext (fun vs H Q E h => ?_) (fun cdv A outer s H vs Q E hr h => ?_)
  · obtain ⟨m, l, ts, rfl, _⟩ := h
    rfl
  obtain ⟨m, l, ts, rfl, hm, ⟨ls, hl, pls, pok⟩, q0, q1⟩ := h
  refine ⟨_, (pss_cons (ps_for PassesOwn.never rfl (pi_enumT (by rfl) T.b_enumerate (pa_cons (pe_cd D_choices G_choices hr (by decide) (pa_cons (pv 0) pa_nil)) pa_nil)) (pg_tup (by rfl) (pgs_cons (pg_name (i := 2) scNext.nd rfl (.inl rfl)) (pgs_cons (pg_name (i := 3) scNext.nd rfl (.inl rfl)) pgs_nil)))
        (pss_cons (ps_set (i := 4) scNext.nd rfl (.inl rfl) (pe_cd D_asked_of G_asked_of hr (by decide) (pa_cons (pv 3) (pa_cons (pe_ix ix_list (pv 1) (pv 2) (fun _ _ => rfl)) pa_nil))))
        (pss_one (ps_if (pt_cmpR op_notN (pv 4) pe_non (nomark _)) (pss_one (ps_ret (pe_tup (pa_cons (pv 2) (pa_cons (pv 4) pa_nil))))) pss_nil))))
      (pss_one (ps_ret (pe_tup (pa_cons pe_non (pa_cons pe_non pa_nil)))))), ?_⟩
  refine ⟨_, rfl, m, rfl, hm, fun p rs H1 s1 hp prs => ⟨p, _, rfl, SqT.of hp, ?_⟩⟩
  obtain ⟨_, _, hch⟩ := chs_ok m hm
  generalize chs m = cs at prs pok q0 q1 hch
  have lrs := TG.paired_len prs
  have lts := TG.paired_len pok
  refine for_it (walk_enumT (K := K) (a := p) (xs := rs)) (fun i σ G => Same H1 G ∧ (∃ v2 v3 v4, σ = [some (.int (m : Int)), some (.ref l), v2, v3, v4]) ∧ nextIn cs ts = (nextIn (cs.drop i) (ts.drop i)).map fun x => (x.1 + i, x.2)) ?_ ?_ ?_ ?_
  · refine ⟨fun _ _ e => e, ⟨_, _, _, rfl⟩, ?_⟩
    rw [List.drop_zero, List.drop_zero]
    cases nextIn cs ts <;> rfl
  · rintro i σ G _ ⟨s2, _⟩
    exact SqT.of (s2 _ _ hp)
  · rintro i x σ G G2 hi ⟨s2, ⟨v2, v3, v4, rfl⟩, en⟩ ⟨t', x', y', rfl, ht', rfl, e1, e2⟩
    cases Option.some.inj e1
    obtain ⟨c, hc, a, rfl, hac⟩ := TG.paired_get prs e2
    obtain ⟨okc1, okc2⟩ := hch c (List.mem_of_getElem? hc)
    obtain ⟨t, ht, okt⟩ := TG.paired_get pok hc
    obtain ⟨lv, hlv, la, rfl, hla⟩ := paired_of pls ht
    have s3 := s2.trans (new_same (o := .tup [.int (i : Nat), .ref a]) ht')
    have s03 := s1.trans s3
    refine ⟨t', _, rfl, SqT.of upd_same, rfl, _, _, rfl, _, _, rfl, rfl, ?_⟩
    generalize L2.upd G t' (.tup [.int (i : Nat), .ref a]) = G3 at s3 s03 ⊢
    rw [nextIn_step hc ht] at en
    refine ⟨_, rfl, _, rfl, _, rfl, l, _, _, _, rfl, rfl, SqL.of (s03 _ _ hl), atI_nat (j := i) hlv, a, la, c, t, rfl, s3 _ _ hac, s03 _ _ hla, okc2, by omega, okt, fun e G4 s4 => ⟨_, rfl, rfl, _, rfl, iteF ⟨s3.trans s4, ⟨_, _, _, rfl⟩, ?_⟩⟩, fun r u G4 e s4 hu => ⟨_, rfl, rfl, _, rfl, iteT ⟨_, rfl, _, rfl, (by show 2 ≤ sizeLine; decide), fun z hz => ?_⟩⟩⟩
    · rw [e] at en
      rw [en]
      cases nextIn (cs.drop (i + 1)) (ts.drop (i + 1)) with
      | none => rfl
      | some x => show some (x.1 + 1 + i, x.2) = some (x.1 + (i + 1), x.2); rw [Nat.add_assoc, Nat.add_comm 1 i]
    · rw [e] at en
      exact q1 (0 + i) r z u _ en ((s03.trans s4).trans (new_same hz)) (by rw [upd_same, Nat.zero_add]) (new_same hz _ _ hu)
  · rintro σ G ⟨s2, ⟨v2, v3, v4, rfl⟩, en⟩
    refine ⟨(by show 2 ≤ sizeLine; decide), fun z hz => q0 ?_ z _ ((s1.trans s2).trans (new_same hz)) upd_same⟩
    rw [en, lrs, List.drop_length]
    rfl
theorem ok_ref {aF : Addr} (F : Fun K "refuse_value" "refuse_value" sRef f fd) (T : Bn mg) (gF : mg "FIRST_VALUES" = some (.ref aF)) (VF : FvAt K aF) : FnOk P w K mg base CX0 1 f fd ["choice", "values", "value"] spRefuseV := by
  refine F.ok scRef (fun vs H Q E h => ?_) (fun cdv A outer s H vs Q E hr h => ?_)
  · obtain ⟨a, l, c, t, x, rfl, _⟩ := h
    rfl
  obtain ⟨a, l, c, t, x, rfl, ha, hl, h01, h3, ht, hok, q⟩ := h
  obtain ⟨u1, u2, _⟩ := sum_01 h01
  have e : c.sum = ((c.sum.toNat : Nat) : Int) := by omega
  have r4 : c.sum.toNat < 4 := by omega
  refine ⟨_, (pss_cons (ps_set (i := 3) scRef.nd rfl (.inl rfl) (pe_ix ix_tup (pe_glob (v := .ref aF) rfl gF rfl) (pe_callB (cr_sumT rfl) (by rfl) T.b_sum (by decide +kernel) (pa_cons (pv 0) pa_nil)) (fun _ _ => rfl)))
      (pss_one (ps_if (PW.pt (pw_and (pt_cmpR op_notN (pv 3) pe_non (nomark _)) (pw_and (pt_not (pt_truth (pv 1) (by intro _; rfl))) (pw_and1 (pt_cmpR op_gt (pv 2) (pv 3) (nomark _)))))) (pss_one ps_never) pss_nil))), ?_⟩
  refine ⟨_, rfl, a, c, rfl, SqT.of ha, ?_⟩
  have look : ∀ v, ([.non, .int 1000000000000000000, .int 10000, .int 200] : List V)[c.sum.toNat]? = some v → atI ([.non, .int 1000000000000000000, .int 10000, .int 200] : List V) c.sum = some v := fun v h => by rw [e]; exact atI_nat h
  unfold okF frst at hok
  generalize hn : c.sum.toNat = n at look hok r4
  match n, r4, look, hok with
  | 0, _, look, hok => exact ⟨aF, _, _, _, rfl, rfl, VF H, look .non rfl, _, rfl, rfl, _, rfl, iteF q⟩
  | 1, _, look, hok =>
    refine ⟨aF, _, _, _, rfl, rfl, VF H, look _ rfl, _, rfl, rfl, _, rfl, iteT ⟨_, rfl, _, .inl ⟨_, SqL.of hl, rfl⟩, ?_⟩⟩
    cases t with
    | nil => exact iteT ⟨_, rfl, _, rfl, _, _, rfl, rfl, _, rfl, by rw [decide_eq_false (by have := of_decide_eq_true hok; omega)]; exact iteF q⟩
    | cons y t => exact iteF q
  | 2, _, look, hok =>
    refine ⟨aF, _, _, _, rfl, rfl, VF H, look _ rfl, _, rfl, rfl, _, rfl, iteT ⟨_, rfl, _, .inl ⟨_, SqL.of hl, rfl⟩, ?_⟩⟩
    cases t with
    | nil => exact iteT ⟨_, rfl, _, rfl, _, _, rfl, rfl, _, rfl, by rw [decide_eq_false (by have := of_decide_eq_true hok; omega)]; exact iteF q⟩
    | cons y t => exact iteF q
  | 3, _, look, hok =>
    refine ⟨aF, _, _, _, rfl, rfl, VF H, look _ rfl, _, rfl, rfl, _, rfl, iteT ⟨_, rfl, _, .inl ⟨_, SqL.of hl, rfl⟩, ?_⟩⟩
    cases t with
    | nil => exact iteT ⟨_, rfl, _, rfl, _, _, rfl, rfl, _, rfl, by rw [decide_eq_false (by have := of_decide_eq_true hok; omega)]; exact iteF q⟩
    | cons y t => exact iteF q
end
end TF52
namespace TF52
open PySem PySem.Spec L2 TG TA
open PyProof.Rows hiding St
/-! ### answers, and what they tell -/
abbrev sIsA : Stmt := top 8
abbrev sAreA : Stmt := top 7
abbrev sTold : Stmt := top 70
theorem scIsA : FnScope ["many", "value", "numbers", "worth"] ["many", "value"] (defScope sIsA) := ⟨rfl, rfl, rfl, by decide +kernel, rfl, by decide +kernel, by decide +kernel⟩
theorem scAreA : FnScope ["many", "value", "pair"] ["many", "value"] (defScope sAreA) := ⟨rfl, rfl, rfl, by decide +kernel, rfl, by decide +kernel, by decide +kernel⟩
theorem scTold : FnScope ["many", "answers", "told", "_", "numbers", "value", "at", "asked"] ["many", "answers"] (defScope sTold) := ⟨rfl, rfl, rfl, by decide +kernel, rfl, by decide +kernel, by decide +kernel⟩
section
variable {P : Program} {w : World} {K : PySem.W.Frag} {mg : Str → Option Value} {base : Heap} {f f1 f2 f3 f4 f5 : Addr} {fd fd1 fd2 fd3 fd4 fd5 : FuncData}
theorem ok_isa (F : Fun K "is_answer" "is_answer" sIsA f fd) (T : Bn mg) (D_are_numbers : Df K mg "are_numbers" sNums f1 fd1 ["value"]) (G_are_numbers : FnOk P w K mg base CX0 3 f1 fd1 ["value"] (spNums K))
    (D_is_within : Df K mg "is_within" sWithin f2 fd2 ["value", "least", "most"]) (G_is_within : FnOk P w K mg base CX0 2 f2 fd2 ["value", "least", "most"] (spWithin K)) : FnOk P w K mg base CX0 4 f fd ["many", "value"] (spIsAns K) := by
  refine F.ok scIsA (fun vs H Q E h => ?_) (fun cdv A outer s H vs Q E hr h => ?_)
  · obtain ⟨m, v, e, rfl, _⟩ := h
    rfl
  obtain ⟨m, v, ⟨ns, x⟩, rfl, ⟨a, u, rfl, hk, b, rfl, hb⟩, hm, hl, h0, hx, q⟩ := h
  have hv : ∃ n : String, HasTy K H (.ref a) n ∧ (n == "list" || n == "tuple") = true := by
    rcases hk with h | h
    · exact ⟨"list", HasTy.lst h, rfl⟩
    · exact ⟨"tuple", HasTy.tup h, rfl⟩
  obtain ⟨n, hv, hn⟩ := hv
  have hl : ns.length = m := hl
  refine ⟨_, (pss_cons (ps_if (PW.pt (pw_or (pt_not (pt_val (pe_callB call_isiT (by rfl) T.b_isinstance (by decide +kernel) (pa_cons (pv 1) (pa_cons (pe_tup (pa_cons (pe_bltn (v := .ty "list") (u := .type "list") (by rfl) T.b_list (by decide +kernel) rfl) (pa_cons (pe_bltn (v := .ty "tuple") (u := .type "tuple") (by rfl) T.b_tuple (by decide +kernel) rfl) pa_nil))) pa_nil))))) (pw_or1 (pt_cmpR op_ne (pe_callB call_len_seq (by rfl) T.b_len (by decide +kernel) (pa_cons (pv 1) pa_nil)) pe_int (nomark _))))) (pss_one (ps_ret pe_bl)) pss_nil)
      (pss_cons (ps_asg (pv 1) (pg_or2 (pg_tup (by rfl) (pgs_cons (pg_name (i := 2) scIsA.nd rfl (.inl rfl)) (pgs_cons (pg_name (i := 3) scIsA.nd rfl (.inl rfl)) pgs_nil))) (pg_lst (by rfl) (pgs_cons (pg_name (i := 2) scIsA.nd rfl (.inl rfl)) (pgs_cons (pg_name (i := 3) scIsA.nd rfl (.inl rfl)) pgs_nil)))))
      (pss_one (ps_ret (pe_and (pe_cd D_are_numbers G_are_numbers hr (by decide) (pa_cons (pv 2) pa_nil)) (pe_and (pe_cmpR op_eq (pe_callB call_len_seq (by rfl) T.b_len (by decide +kernel) (pa_cons (pv 2) pa_nil)) (pv 0) (nomark _)) (pe_one (pe_cd D_is_within G_is_within hr (by decide) (pa_cons (pv 3) (pa_cons pe_int (pa_cons pe_non pa_nil))))))))))), ?_⟩
  refine ⟨_, rfl, (by show 2 ≤ sizeLine; decide), fun tp htp => ?_⟩
  have s1 := new_same (o := .tup [.ty "list", .ty "tuple"]) htp
  refine ⟨.ref a, tp, _, _, [.type "list", .type "tuple"], _, rfl, upd_same, .cons (.ty _) (.cons (.ty _) .nil), tyx_same hv.1 s1, kit_lt hv.2, _, rfl, ?_⟩
  rw [hn]
  refine iteF ?_
  have hk1 := hk.imp (s1 _ _) (s1 _ _)
  have hb1 := hb.imp (s1 _ _) (s1 _ _)
  generalize L2.upd H tp (.tup [.ty "list", .ty "tuple"]) = H1 at s1 hk1 hb1 ⊢
  refine ⟨_, rfl, a, _, rfl, hk1.imp SqL.of SqT.of, rfl, _, rfl, iteF ?_⟩
  have rest : (tAndV (tCall (spNums K) [] E0 (tCons (tVar 2) tNil)) (tAndV (tOp rEq (tCB (fun xs H_1 Q => ∃ p ys, xs = [V.ref p] ∧ (SqL K H_1 p ys ∨ SqT K H_1 p ys) ∧ Q (V.int (ys.length : Nat)) H_1) (tCons (tVar 2) tNil)) (tVar 0)) (tCall (spWithin K) [] E0 (tCons (tVar 3) (tCons (tC (V.int 0)) (tCons (tC V.non) tNil)))))) [some (.int (m : Int)), some (.ref a), some (.ref b), some (.int x)] H1 Q := by
    have hnb : ∃ n2 : String, HasTy K H1 (.ref b) n2 ∧ ((n2 = "list" ∧ H1 b = some (.lst (ns.map V.int))) ∨ (n2 = "tuple" ∧ H1 b = some (.tup (ns.map V.int)))) := by
      rcases hb1 with h | h
      · exact ⟨_, HasTy.lst h, .inl ⟨rfl, h⟩⟩
      · exact ⟨_, HasTy.tup h, .inr ⟨rfl, h⟩⟩
    obtain ⟨n2, hn2, hor⟩ := hnb
    refine ⟨_, rfl, _, n2, rfl, hn2, .inr ⟨b, ns.map V.int, rfl, hor, fun y hy => ?_, by rw [List.length_map]; show ns.length ≤ _; omega, fun H3 s3 => ?_⟩⟩
    · obtain ⟨i, _, rfl⟩ := List.mem_map.mp hy
      exact ⟨_, HasTy.int i⟩
    have e1 : (ns.map V.int).all numV = true := by
      rw [List.all_map]
      refine List.all_eq_true.mpr fun i hi => ?_
      show (decide ((0 : Int) ≤ i) && true) = true
      rw [decide_eq_true (h0 i hi)]
      rfl
    rw [e1]
    have hb3 := hb1.imp (s3 _ _) (s3 _ _)
    refine ⟨_, rfl, iteT ⟨_, rfl, b, _, rfl, hb3.imp SqL.of SqT.of, _, rfl, rfl, _, rfl, ?_⟩⟩
    rw [List.length_map, hl, decide_eq_true rfl]
    refine iteT ⟨_, rfl, _, _, _, _, rfl, HasTy.int _, .inr ⟨_, rfl⟩, .inl rfl, ?_⟩
    rw [show withinV (.int x) (.int 0) .non = true from by show (decide ((0 : Int) ≤ x) && true) = true; rw [decide_eq_true hx]; rfl]
    exact q _ (s1.trans s3)
  rcases hk1 with h | h
  · exact ⟨_, rfl, .inr ⟨a, _, rfl, SqL.of h, rfl, _, _, rfl, _, _, rfl, rfl, rest⟩⟩
  · exact ⟨_, rfl, .inl ⟨a, _, rfl, SqT.of h, rfl, _, _, rfl, _, _, rfl, rfl, rest⟩⟩
theorem ok_area (F : Fun K "are_answers" "are_answers" sAreA f fd) (T : Bn mg) (D_is_answer : Df K mg "is_answer" sIsA f1 fd1 ["many", "value"]) (G_is_answer : FnOk P w K mg base CX0 4 f1 fd1 ["many", "value"] (spIsAns K)) : FnOk P w K mg base CX0 5 f fd ["many", "value"] (spAreAns K) := by
  refine F.ok scAreA (fun vs H Q E h => ?_) (fun cdv A outer s H vs Q E hr h => ?_)
  · obtain ⟨m, v, as, rfl, _⟩ := h
    rfl
  obtain ⟨m, v, as, rfl, ⟨a, vs, rfl, hk, pas⟩, hm, hok, hlen, q⟩ := h
  have lv := TG.paired_len pas
  have hv : ∃ n : String, HasTy K H (.ref a) n ∧ (n == "list" || n == "tuple") = true := by
    rcases hk with h | h
    · exact ⟨"list", HasTy.lst h, rfl⟩
    · exact ⟨"tuple", HasTy.tup h, rfl⟩
  obtain ⟨n, hv, hn⟩ := hv
  have step : ∀ (i : Nat) (x : V) (G : Hp), vs[i]? = some x → Same H G → ∃ e, AnsAt G x e ∧ e.1.length = m ∧ (∀ k ∈ e.1, 0 ≤ k) ∧ 0 ≤ e.2 := by
    intro i x G hx s
    obtain ⟨e, he, r⟩ := TG.paired_get pas hx
    obtain ⟨o1, o2, o3⟩ := hok e (List.mem_of_getElem? he)
    exact ⟨e, r.same s, o1, o2, o3⟩
  have two : ∃ (J : It) (GG : Hp → Prop), Walk J vs.length GG (YAt vs) ∧ (∀ G, Same H G → GG G) ∧ ((H a = some (.lst vs) ∧ J = Itl K a) ∨ (H a = some (.tup vs) ∧ J = Itt K a)) := by
    rcases hk with h | h
    · exact ⟨_, _, walk_list, fun G s => SqL.of (s _ _ h), .inl ⟨h, rfl⟩⟩
    · exact ⟨_, _, walk_tup, fun G s => SqT.of (s _ _ h), .inr ⟨h, rfl⟩⟩
  obtain ⟨J, GG, wk, hGG, hJ⟩ := two
  have key : ∀ (H1 : Hp), Same H H1 → ∀ D, H1 D = none → ∃ W : Nat → Nat → Hp → Prop, (∃ m', W 0 m' (L2.upd H1 D (.lst []))) ∧ ∀ i m' H2, W i m' H2 →
      (J.stop i H2 ∧ (∃ xs, SqL K H2 D xs ∧ xs = (List.replicate vs.length (V.bl true)) ∧ Same H H2)) ∨ (J.go i H2 ∧ ∃ Nx : Hp → Prop, (∀ H3, Nx H3 → ∃ m2, m2 < m' ∧ W (i + 1) m2 H3) ∧ ∀ x H3, J.yld i H2 x H3 → gName 2 x (wipe [some (.int (m : Int)), some (.ref a), none] [2]) H3 fun σ2 H4 => wipe σ2 [2] = wipe [some (.int (m : Int)), some (.ref a), none] [2] ∧ tYes σ2 H4 fun b H5 =>
        if b = true then tCall (spIsAns K) [] E0 (tCons (tVar 0) (tCons (tVar 2) tNil)) σ2 H5 fun y H6 => ∃ acc, H6 D = some (.lst acc) ∧ acc.length < sizeLine ∧ Nx (L2.upd H6 D (.lst (acc ++ [y]))) else Nx H5) := by
    intro H1 s1 D hD
    refine lc_it wk (fun i G => Same H G ∧ G D = some (.lst (List.replicate i (V.bl true)))) ?_ (fun i G _ h => hGG G h.1) ?_ ?_
    · exact ⟨s1.trans (new_same hD), upd_same⟩
    · rintro i x _ G hi ⟨s2, hg⟩ ⟨rfl, hx⟩
      obtain ⟨e, r, o1, o2, o3⟩ := step i x G hx s2
      refine ⟨rfl, _, rfl, _, rfl, m, x, e, rfl, r, hm, o1, o2, o3, fun G3 s3 => ⟨_, s3 _ _ hg, ?_, same_put (s2.trans s3) (s1.free hD), ?_⟩⟩
      · rw [List.length_replicate]
        exact small1000 (by omega)
      · rw [upd_same, List.replicate_succ']
    · rintro G ⟨s2, hg⟩
      exact ⟨_, SqL.of hg, rfl, s2⟩
  rcases hJ with ⟨ha, rfl⟩ | ⟨ha, rfl⟩
  · refine ⟨_, (pss_cons (ps_if (pt_not (pt_val (pe_callB call_isiT (by rfl) T.b_isinstance (by decide +kernel) (pa_cons (pv 1) (pa_cons (pe_tup (pa_cons (pe_bltn (v := .ty "list") (u := .type "list") (by rfl) T.b_list (by decide +kernel) rfl) (pa_cons (pe_bltn (v := .ty "tuple") (u := .type "tuple") (by rfl) T.b_tuple (by decide +kernel) rfl) pa_nil))) pa_nil))))) (pss_one (ps_ret pe_bl)) pss_nil)
      (pss_one (ps_ret (pe_callB (cr_all rfl) (by rfl) T.b_all (by decide +kernel) (pa_cons (pe_lc (own := [("pair", 2)]) (g := (gName 2)) (by rfl) scAreA.nd (pi_list (pv 1)) (blkOk_by (own := [("pair", 2)]) (N := ["many", "value", "pair"]) (sc := defScope sAreA) (by decide +kernel)) (fun _ _ _ _ _ => (pg_name (i := 2) scAreA.nd rfl (.inl rfl))) (fun _ _ _ _ _ => pts_nil) (fun _ _ _ _ _ => (pe_cd D_is_answer G_is_answer hr (by decide) (pa_cons (pv 0) (pa_cons (pv 2) pa_nil))))) pa_nil))))), ?_⟩
    refine ⟨_, rfl, (by show 2 ≤ sizeLine; decide), fun tp htp => ?_⟩
    have s1 := new_same (o := .tup [.ty "list", .ty "tuple"]) htp
    refine ⟨.ref a, tp, _, _, [.type "list", .type "tuple"], _, rfl, upd_same, .cons (.ty _) (.cons (.ty _) .nil), tyx_same hv.1 s1, kit_lt hv.2, _, rfl, ?_⟩
    rw [hn]
    refine iteF ⟨_, rfl, a, rfl, ⟨_, SqL.of (s1 _ _ ha)⟩, fun D hD => ?_⟩
    obtain ⟨W, w0, ww⟩ := key _ s1 D hD
    refine ⟨W, w0, fun i m' H2 hw => (ww i m' H2 hw).imp (fun ⟨st, xs, hx, ex, s2⟩ => ⟨st, D, List.replicate vs.length true, rfl, ?_, ?_⟩) id⟩
    · rw [List.map_replicate, ← ex]
      exact hx
    · rw [show (List.replicate vs.length true).all id = true from List.all_eq_true.mpr fun b hb => by rw [List.eq_of_mem_replicate hb]; rfl]
      exact q _ s2
  · refine ⟨_, (pss_cons (ps_if (pt_not (pt_val (pe_callB call_isiT (by rfl) T.b_isinstance (by decide +kernel) (pa_cons (pv 1) (pa_cons (pe_tup (pa_cons (pe_bltn (v := .ty "list") (u := .type "list") (by rfl) T.b_list (by decide +kernel) rfl) (pa_cons (pe_bltn (v := .ty "tuple") (u := .type "tuple") (by rfl) T.b_tuple (by decide +kernel) rfl) pa_nil))) pa_nil))))) (pss_one (ps_ret pe_bl)) pss_nil)
      (pss_one (ps_ret (pe_callB (cr_all rfl) (by rfl) T.b_all (by decide +kernel) (pa_cons (pe_lc (own := [("pair", 2)]) (g := (gName 2)) (by rfl) scAreA.nd (pi_tup (pv 1)) (blkOk_by (own := [("pair", 2)]) (N := ["many", "value", "pair"]) (sc := defScope sAreA) (by decide +kernel)) (fun _ _ _ _ _ => (pg_name (i := 2) scAreA.nd rfl (.inl rfl))) (fun _ _ _ _ _ => pts_nil) (fun _ _ _ _ _ => (pe_cd D_is_answer G_is_answer hr (by decide) (pa_cons (pv 0) (pa_cons (pv 2) pa_nil))))) pa_nil))))), ?_⟩
    refine ⟨_, rfl, (by show 2 ≤ sizeLine; decide), fun tp htp => ?_⟩
    have s1 := new_same (o := .tup [.ty "list", .ty "tuple"]) htp
    refine ⟨.ref a, tp, _, _, [.type "list", .type "tuple"], _, rfl, upd_same, .cons (.ty _) (.cons (.ty _) .nil), tyx_same hv.1 s1, kit_lt hv.2, _, rfl, ?_⟩
    rw [hn]
    refine iteF ⟨_, rfl, a, rfl, ⟨_, SqT.of (s1 _ _ ha)⟩, fun D hD => ?_⟩
    obtain ⟨W, w0, ww⟩ := key _ s1 D hD
    refine ⟨W, w0, fun i m' H2 hw => (ww i m' H2 hw).imp (fun ⟨st, xs, hx, ex, s2⟩ => ⟨st, D, List.replicate vs.length true, rfl, ?_, ?_⟩) id⟩
    · rw [List.map_replicate, ← ex]
      exact hx
    · rw [show (List.replicate vs.length true).all id = true from List.all_eq_true.mpr fun b hb => by rw [List.eq_of_mem_replicate hb]; rfl]
      exact q _ s2
end
end TF52
namespace TF52
open PySem PySem.Spec L2 TG TA
open PyProof.Rows hiding St
/-! ### the values told, and the next ask -/
abbrev sNA : Stmt := top 68
theorem scNA : FnScope ["many", "answers"] ["many", "answers"] (defScope sNA) := ⟨rfl, rfl, rfl, by decide +kernel, rfl, by decide +kernel, by decide +kernel⟩
section
variable {P : Program} {w : World} {K : PySem.W.Frag} {mg : Str → Option Value} {base : Heap} {f f1 f2 f3 f4 f5 : Addr} {fd fd1 fd2 fd3 fd4 fd5 : FuncData}
theorem ok_told (F : Fun K "values_told" "values_told" sTold f fd) (T : Bn mg) (D_check_many : Df K mg "check_many" sCM f1 fd1 ["many"]) (G_check_many : FnOk P w K mg base CX0 3 f1 fd1 ["many"] spCM)
    (D_are_answers : Df K mg "are_answers" sAreA f2 fd2 ["many", "value"]) (G_are_answers : FnOk P w K mg base CX0 5 f2 fd2 ["many", "value"] (spAreAns K))
    (D_choices : Df K mg "choices" sChs f3 fd3 ["many"]) (G_choices : FnOk P w K mg base CX0 4 f3 fd3 ["many"] spChs)
    (D_next_in : Df K mg "next_in" sNext f4 fd4 ["many", "told"]) (G_next_in : FnOk P w K mg base CX0 5 f4 fd4 ["many", "told"] spNext)
    (D_refuse_value : Df K mg "refuse_value" sRef f5 fd5 ["choice", "values", "value"]) (G_refuse_value : FnOk P w K mg base CX0 1 f5 fd5 ["choice", "values", "value"] spRefuseV) : FnOk P w K mg base CX0 6 f fd ["many", "answers"] (spTold K) := by
  refine F.ok scTold (fun vs H Q E h => ?_) (fun cdv A outer s H vs Q E hr h => ?_)
  · obtain ⟨m, v, as, ts, rfl, _⟩ := h
    rfl
  obtain ⟨m, v, as, tsF, rfl, ⟨a, vs, rfl, hk, pas⟩, hm, hok, hlen, hrun, q⟩ := h
  have lv := TG.paired_len pas
  obtain ⟨c8, c1, hch⟩ := chs_ok m hm
  refine ⟨_, (pss_cons (ps_expr (pe_cd D_check_many G_check_many hr (by decide) (pa_cons (pv 0) pa_nil)))
      (pss_cons (ps_if (pt_not (pt_val (pe_cd D_are_answers G_are_answers hr (by decide) (pa_cons (pv 0) (pa_cons (pv 1) pa_nil))))) (pss_one ps_never) pss_nil)
      (pss_cons (ps_setLc (i := 2) (own := [("_", 3)]) (g := (gName 3)) rfl scTold.nd rfl rfl (sw_true rfl rfl rfl (by decide +kernel)) (pi_tup (pe_cd D_choices G_choices hr (by decide) (pa_cons (pv 0) pa_nil))) (blkOk_by (own := [("_", 3)]) (N := ["many", "answers", "told", "_", "numbers", "value", "at", "asked"]) (sc := defScope sTold) (by decide +kernel)) (fun _ _ _ _ _ => (pg_name (i := 3) scTold.nd rfl (.inl rfl))) (fun _ _ _ _ _ => pts_nil) (fun _ _ _ _ _ => (pe_lst pa_nil)))
      (pss_cons (ps_for PassesOwn.never rfl (pi_seq (pv 1)) (pg_or2 (pg_tup (by rfl) (pgs_cons (pg_name (i := 4) scTold.nd rfl (.inl rfl)) (pgs_cons (pg_name (i := 5) scTold.nd rfl (.inl rfl)) pgs_nil))) (pg_lst (by rfl) (pgs_cons (pg_name (i := 4) scTold.nd rfl (.inl rfl)) (pgs_cons (pg_name (i := 5) scTold.nd rfl (.inl rfl)) pgs_nil))))
        (pss_cons (ps_asg (pe_cd D_next_in G_next_in hr (by decide) (pa_cons (pv 0) (pa_cons (pv 2) pa_nil))) (pg_tup (by rfl) (pgs_cons (pg_name (i := 6) scTold.nd rfl (.inl rfl)) (pgs_cons (pg_name (i := 7) scTold.nd rfl (.inl rfl)) pgs_nil))))
        (pss_cons (ps_if (pt_cmpR (op_neD hr.units) (pv 7) (pe_callTy call_tupX (by rfl) T.b_tuple (by decide +kernel) (pa_cons (pv 4) pa_nil)) (nomark _)) (pss_one ps_never) pss_nil)
        (pss_cons (ps_expr (pe_cd D_refuse_value G_refuse_value hr (by decide) (pa_cons (pe_ix ix_tup (pe_cd D_choices G_choices hr (by decide) (pa_cons (pv 0) pa_nil)) (pv 6) (fun _ _ => rfl)) (pa_cons (pe_ix ix_list (pv 2) (pv 6) (fun _ _ => rfl)) (pa_cons (pv 5) pa_nil)))))
        (pss_one (ps_expr (pe_bm PySem.F.plainAttrs_list PySem.F.slot_list_append PySem.F.type_list_append mt_append (pe_ix ix_list (pv 2) (pv 6) (fun _ _ => rfl)) (pa_cons (pv 5) pa_nil))))))))
      (pss_one (ps_ret (pv 2))))))), ?_⟩
  refine ⟨_, rfl, m, rfl, hm, _, rfl, _, rfl, m, _, as, rfl, ⟨a, vs, rfl, hk, pas⟩, hm, hok, hlen, fun H1 s1 => ⟨_, rfl, iteF ?_⟩⟩
  refine ⟨_, rfl, m, rfl, hm, fun p rs H2 s2 hp prs => ⟨p, rfl, ⟨_, SqT.of hp⟩, fun D hD => ?_⟩⟩
  have lrs := TG.paired_len prs
  have s02 := s1.trans s2
  refine lc_tup (K := K) (a := p) (xs := rs) (fun i G => Same H2 G ∧ ∃ ads : List Addr, G D = some (.lst (ads.map V.ref)) ∧ ads.length = i ∧ ads.Nodup ∧ ∀ z ∈ ads, z ≠ D ∧ G z = some (.lst []) ∧ H2 z = none) ?_ ?_ ?_ ?_
  · exact ⟨new_same hD, [], upd_same, rfl, List.nodup_nil, fun z hz => absurd hz List.not_mem_nil⟩
  · rintro i G _ ⟨s3, _⟩
    exact SqT.of (s3 _ _ hp)
  · rintro i x G hx ⟨s3, ads, hG, la, nd, hz⟩
    have hi := (List.getElem?_eq_some_iff.mp hx).1
    refine ⟨rfl, (by show 0 ≤ sizeLine; decide), fun z hz2 => ⟨ads.map V.ref, ?_, ?_, ?_, ads ++ [z], ?_, ?_, ?_, fun y hy => ?_⟩⟩
    · exact new_same hz2 _ _ hG
    · rw [List.length_map]
      exact small1000 (by omega)
    · exact same_put (s3.trans (new_same hz2)) hD
    · rw [upd_same, List.map_append]
      rfl
    · rw [List.length_append, la]
      rfl
    · refine List.nodup_append.mpr ⟨nd, List.nodup_cons.mpr ⟨List.not_mem_nil, List.nodup_nil⟩, fun y hy y2 hy2 e => ?_⟩
      cases List.mem_singleton.mp hy2
      have := (hz y hy).2.1
      rw [e, hz2] at this
      cases this
    · rcases List.mem_append.mp hy with hy | hy
      · obtain ⟨n1, n2, n3⟩ := hz y hy
        refine ⟨n1, ?_, n3⟩
        rw [upd_ne n1]
        exact new_same hz2 _ _ n2
      · cases List.mem_singleton.mp hy
        have n1 : z ≠ D := Ne.symm (ne_of_none hG hz2)
        refine ⟨n1, by rw [upd_ne n1, upd_same], ?_⟩
        cases e : H2 z with
        | none => rfl
        | some o => exact absurd ((s3 _ _ e).symm.trans hz2) (fun c => nomatch c)
  rintro G0 ⟨s3, ads, hG0, la, nd, hz⟩
  have s03 := s02.trans s3
  have zD : ∀ z ∈ ads, z ≠ D := fun z h => (hz z h).1
  have zH : ∀ z ∈ ads, H z = none := fun z h => by
    cases e : H z with
    | none => rfl
    | some o => exact absurd ((s02 _ _ e).symm.trans (hz z h).2.2) (fun c => nomatch c)
  have hDH : H D = none := by
    cases e : H D with
    | none => rfl
    | some o => exact absurd ((s02 _ _ e).symm.trans hD) (fun c => nomatch c)
  refine ⟨_, rfl, a, vs, rfl, SqX.of (hk.imp (s03 _ _) (s03 _ _)), fun J GG wk hGG => ?_⟩
  show ∃ W : Nat → Nat → L2.St → Hp → Prop, _
  refine for_it wk (fun i σ G => ∃ (ts : List (List Int)) (v3 v4 v5 v6 v7 : Option V), σ = [some (.int (m : Int)), some (.ref a), some (.ref D), v3, v4, v5, v6, v7] ∧ Same H G ∧ G D = some (.lst (ads.map V.ref)) ∧ Paired (LAt G) ads ts ∧ Paired OkT (chs m) ts ∧ run (chs m) ts (as.drop i) = some tsF) ?_ ?_ ?_ ?_
  · refine ⟨(chs m).map fun _ => [], _, _, _, _, _, rfl, s03, hG0, lats_const (by omega) fun z h => (hz z h).2.1, okT_const _, ?_⟩
    rw [List.drop_zero]
    exact hrun
  · rintro i σ G _ ⟨_, _, _, _, _, _, _, sg, _⟩
    exact hGG G (stays hk s03 sg)
  · rintro i x σ _ G hi ⟨ts, v3, v4, v5, v6, v7, rfl, sg, hgD, plt, pok, hr2⟩ ⟨rfl, hx⟩
    obtain ⟨⟨ns, xv⟩, he, rr⟩ := TG.paired_get pas hx
    obtain ⟨o1, o2, o3⟩ := hok _ (List.mem_of_getElem? he)
    obtain ⟨ad, u, rfl, hu, b, rfl, hb⟩ := rr.same sg
    rw [drop_at he] at hr2
    unfold TG.run at hr2
    cases en : nextIn (chs m) ts with
    | none => rw [en] at hr2; cases hr2
    | some ja =>
    obtain ⟨j, r⟩ := ja
    rw [en] at hr2
    obtain ⟨c, t, hc, ht, hask⟩ := nextIn_some en
    dsimp only at hr2
    rw [List.getD_eq_getElem?_getD, List.getD_eq_getElem?_getD, hc, ht, Option.getD_some, Option.getD_some] at hr2
    by_cases cond : r = ns ∧ okF c t xv = true
    case neg => rw [if_neg cond] at hr2; cases hr2
    obtain ⟨er, okf⟩ := cond
    subst er
    rw [if_pos ⟨rfl, okf⟩] at hr2
    obtain ⟨okc1, okc2⟩ := hch c (List.mem_of_getElem? hc)
    obtain ⟨t2, ht2, okt⟩ := TG.paired_get pok hc
    cases Option.some.inj (ht.symm.trans ht2)
    obtain ⟨la2, hla, hlat⟩ := paired_of plt ht
    refine apart2 hu rfl ⟨_, _, rfl, _, _, rfl, rfl, ?_⟩
    refine ⟨_, rfl, _, rfl, m, D, ts, rfl, hm, ⟨_, hgD, lats_told plt, pok⟩, fun e => (nomatch en.symm.trans e), fun i2 r2 p2 u2 G2 e2 s2 hp2 hu2 => ⟨p2, _, rfl, SqT.of hp2, rfl, _, _, rfl, _, _, rfl, rfl, ?_⟩⟩
    cases Option.some.inj (en.symm.trans e2)
    refine ⟨_, rfl, _, rfl, b, r.map V.int, rfl, SqX.of (hb.imp (s2 _ _) (s2 _ _)), fun b3 G3 s3 hb3 => ?_⟩
    refine ⟨.tuple (r.map .int), .tuple (r.map .int), .tup (SqT.of (s3 _ _ hu2)) (dp_ints r), .tup hb3 (dp_ints r), (ints_shaped r).1, (ints_shaped r).1, _, rfl, ?_⟩
    rw [show PyData.eqv (.tuple (r.map .int)) (.tuple (r.map .int)) = true from (ints_eqv r r).trans (decide_eq_true rfl)]
    refine iteF ?_
    have s13 := s2.trans s3
    refine ⟨_, rfl, m, rfl, hm, fun p4 rs4 G4 s4 hp4 prs4 => ?_⟩
    obtain ⟨cv, hcv, ac, rfl, hac⟩ := paired_of prs4 hc
    have s14 := s13.trans s4
    refine ⟨_, rfl, p4, _, _, _, rfl, rfl, SqT.of hp4, atI_nat (j := j) hcv, _, rfl, _, rfl, D, _, _, _, rfl, rfl, SqL.of (s14 _ _ hgD), atI_nat (j := j) (by rw [List.getElem?_map, hla]; rfl), _, rfl, ac, la2, c, t, xv, rfl, hac, s14 _ _ hlat, okc2, by omega, okt.1, okf, ?_⟩
    refine ⟨_, rfl, _, rfl, D, _, _, .ref la2, rfl, rfl, SqL.of (s14 _ _ hgD), atI_nat (j := j) (by rw [List.getElem?_map, hla]; rfl), .inl ⟨rfl, _, SqL.of (s14 _ _ hlat)⟩, _, rfl, la2, _, _, rfl, rfl, s14 _ _ hlat, ?_, ?_⟩
    · rw [List.length_map]
      exact small1000 (by have := okt.1; omega)
    have mem := List.mem_of_getElem? hla
    have eup : (t.map V.int ++ [V.int xv]) = (t ++ [xv]).map V.int := by rw [List.map_append]; rfl
    rw [eup]
    refine ⟨ts.set j (t ++ [xv]), _, _, _, _, _, rfl, same_put (sg.trans s14) (zH _ mem), ?_, lats_set nd (lats_same plt s14) hla, paired_set pok fun c2 hc2 => ?_, hr2⟩
    · rw [upd_ne (Ne.symm (zD _ mem))]
      exact s14 _ _ hgD
    · cases Option.some.inj (hc.symm.trans hc2)
      exact okt.snoc hask o3 okf
  · rintro σ G ⟨ts, v3, v4, v5, v6, v7, rfl, sg, hgD, plt, pok, hr2⟩
    rw [lv, List.drop_length] at hr2
    cases Option.some.inj hr2
    exact ⟨_, rfl, q D G sg ⟨_, hgD, lats_told plt, pok⟩⟩
theorem ok_nextask (F : Fun K "next_ask" "next_ask" sNA f fd) (T : Bn mg) (D_next_in : Df K mg "next_in" sNext f4 fd4 ["many", "told"]) (G_next_in : FnOk P w K mg base CX0 5 f4 fd4 ["many", "told"] spNext)
    (D_values_told : Df K mg "values_told" sTold f5 fd5 ["many", "answers"]) (G_values_told : FnOk P w K mg base CX0 6 f5 fd5 ["many", "answers"] (spTold K)) : FnOk P w K mg base CX0 7 f fd ["many", "answers"] (spNextAsk K) := by
  refine F.ok scNA (fun vs H Q E h => ?_) (fun cdv A outer s H vs Q E hr h => ?_)
  · obtain ⟨m, v, as, ts, rfl, _⟩ := h
    rfl
  obtain ⟨m, v, as, ts, rfl, hal, hm, hok, hlen, hrun, q0, q1⟩ := h
  refine ⟨_, (pss_one (ps_ret (pe_ix ix_tup (pe_cd D_next_in G_next_in hr (by decide) (pa_cons (pv 0) (pa_cons (pe_cd D_values_told G_values_told hr (by decide) (pa_cons (pv 0) (pa_cons (pv 1) pa_nil))) pa_nil))) pe_int (fun _ _ => rfl)))), ?_⟩
  refine ⟨_, rfl, _, rfl, _, rfl, m, v, as, ts, rfl, hal, hm, hok, hlen, hrun, fun l H1 s1 ht => ?_⟩
  refine ⟨m, l, ts, rfl, hm, ht, fun e p H2 s2 hp => ?_, fun i r p u H2 e s2 hp hu => ?_⟩
  · exact ⟨p, _, _, _, rfl, rfl, SqT.of hp, atI_nat (j := 1) rfl, q0 e _ (s1.trans s2)⟩
  · exact ⟨p, _, _, _, rfl, rfl, SqT.of hp, atI_nat (j := 1) rfl, q1 i r u _ e (s1.trans s2) hu⟩
end
end TF52
set_option maxHeartbeats 400000
/-! own rule: zip of any two of lists and tuples -/
namespace TG
open PySem PySem.Spec L2
open PyProof.Rows hiding St
/-- true: a list; false: a tuple -/
def SqB (b : Bool) (K : PySem.W.Frag) (H : Hp) (a : Addr) (xs : List V) : Prop := match b with | true => SqL K H a xs | false => SqT K H a xs
def IterB (b : Bool) (h : Heap) (it a : Addr) (i : Nat) : Prop := match b with | true => h.IsListIter it a i | false => h.IsTupleIter it a i
def AtB (b : Bool) (h : Heap) (a : Addr) (items : Array Value) : Prop := match b with | true => h.IsList a items | false => h.IsTuple a items
def itO (b : Bool) (a : Addr) : Obj := match b with | true => { cls := .type "list_iterator", data := .fields #[.ref a, .int 0 0] } | false => { cls := .type "tuple_iterator", data := .fields #[.ref a, .int 0 0] }
theorem drawsB {prog : Program} {w : World} {A : Around} (hh : A.handled = none) (b : Bool) (it a : Addr) (ne : a ≠ it) (items : Array Value) :
    Draws prog w A it [it, a] items.size (fun i v => items[i]? = some v) (fun i h => IterB b h it a i ∧ AtB b h a items) := by
  cases b
  · exact Draws.tuple hh it a ne items
  · exact Draws.list hh it a ne items
theorem beginsB (b : Bool) (a : Addr) (items : Array Value) : Begins (.ref a) (itO b a) fun h => AtB b h a items := by
  cases b
  · exact begins_tuple a items
  · exact begins_list a items
theorem iterB_live {b : Bool} {h : Heap} {it a : Addr} {i : Nat} (x : IterB b h it a i) : ∃ o : Obj, h.get? it = some o ∧ ∃ vs, o.data = .fields vs := by
  cases b
  · obtain ⟨o, h1, _, h2⟩ := x
    exact ⟨o, h1, _, h2⟩
  · obtain ⟨o, h1, _, h2⟩ := x
    exact ⟨o, h1, _, h2⟩
theorem iterB_at {b : Bool} {h h2 : Heap} {it a : Addr} {i : Nat} (x : IterB b h it a i) (k : ∀ o, h.get? it = some o → h2.get? it = some o) : IterB b h2 it a i := by
  cases b
  · exact Heap.IsTupleIter.at x k
  · exact Heap.IsListIter.at x k
theorem iterB_new {b : Bool} {h : Heap} {it a : Addr} (x : h.get? it = some (itO b a)) : IterB b h it a 0 := by
  cases b
  · exact ⟨_, x, rfl, rfl⟩
  · exact ⟨_, x, rfl, rfl⟩
section
variable {X : Cx} {pins : List (Addr × Obj)} {σ : L2.St} {H : Hp} {s : Shared} {a : Addr} {xs ys : List V} {b : Bool}
theorem inv_B (I : Inv X pins σ H s) (h : SqB b X.K H a xs) : ∃ its, Vals xs its ∧ AtB b s.heap a its.toArray := by
  cases b
  · obtain ⟨its, r, p, _⟩ := I.tuple h
    exact ⟨its, r, p⟩
  · obtain ⟨its, r, p, _⟩ := I.list h
    exact ⟨its, r, p.isList⟩
theorem inv_Binj (I : Inv X pins σ H s) (h : SqB b X.K H a xs) (g : SqB b X.K H a ys) : xs = ys := by
  cases b
  · exact I.tuple_inj h g
  · exact I.list_inj h g
end
/-- those at a and c as they stand at each turn, the items in new pairs -/
def ItzB (K : PySem.W.Frag) (b1 b2 : Bool) (a c : Addr) : It :=
  ⟨fun i H => ∃ (xs ys : List V) (x y : V), SqB b1 K H a xs ∧ SqB b2 K H c ys ∧ xs[i]? = some x ∧ ys[i]? = some y,
   fun i H v H' => ∃ T x y, v = .ref T ∧ H T = none ∧ H' = upd H T (.tup [x, y]) ∧ (∀ xs, SqB b1 K H a xs → xs[i]? = some x) ∧ ∀ ys, SqB b2 K H c ys → ys[i]? = some y,
   fun i H => ∃ xs ys : List V, SqB b1 K H a xs ∧ SqB b2 K H c ys ∧ i = min xs.length ys.length⟩
theorem turn_zipB {P : Program} {w : World} {K : PySem.W.Frag} {elts : List Expr} {kk : Nat} {tpos : Pos} {b1 b2 : Bool} {a c z TI TO i1 i2 : Addr} (D : ZipSep2 z TI TO i1 i2 [i1, a] [i2, c]) (n1 : a ≠ i1) (n2 : c ≠ i2) :
    Turn P w K (.Tuple elts kk tpos) (ItzB K b1 b2 a c) [z, TI, TO, i1, i2] z (fun i h => IsZip h z TI TO .none ∧ IsTupOf2 h TI (.ref i1) (.ref i2) ∧ (∃ x y, IsTupOf2 h TO x y) ∧ IterB b1 h i1 a i ∧ IterB b2 h i2 c i) := by
  refine ⟨by simp, fun i h st q hq => ?_, fun i h h2 st k => ?_, ?_, ?_, fun A i s Q E st h => wpAny_pyIter_zip st.1 h⟩
  · obtain ⟨hz, hTI, ⟨x, y, hTO⟩, e1, e2⟩ := st
    obtain ⟨o1, g1, v1, d1⟩ := iterB_live e1
    obtain ⟨o2, g2, v2, d2⟩ := iterB_live e2
    have q' : q = z ∨ q = TI ∨ q = TO ∨ q = i1 ∨ q = i2 := by simpa using hq
    rcases q' with rfl | rfl | rfl | rfl | rfl
    · exact ⟨_, hz, fun v q => nomatch q⟩
    · exact ⟨_, hTI, fun v q => nomatch q⟩
    · exact ⟨_, hTO, fun v q => nomatch q⟩
    · exact ⟨o1, g1, fun v q => nomatch d1.symm.trans q⟩
    · exact ⟨o2, g2, fun v q => nomatch d2.symm.trans q⟩
  · obtain ⟨hz, hTI, ⟨x, y, hTO⟩, e1, e2⟩ := st
    exact ⟨k z (by simp) _ hz, k TI (by simp) _ hTI, ⟨x, y, k TO (by simp) _ hTO⟩, iterB_at e1 fun o q => k i1 (by simp) o q, iterB_at e2 fun o q => k i2 (by simp) o q⟩
  · intro X hP hw hK hc i pins s σ H E I hf st hg
    cases hP; cases hw; cases hK
    obtain ⟨hz, hTI, ⟨x0, y0, hTO⟩, e1, e2⟩ := st
    obtain ⟨xs, ys, x, y, hqx, hqy, hx, hy⟩ := hg
    obtain ⟨its, rv, p1⟩ := inv_B I hqx
    obtain ⟨its2, rv2, p2⟩ := inv_B I hqy
    obtain ⟨u, hu, ru⟩ := rv.get hx
    obtain ⟨u2, hu2, ru2⟩ := rv2.get hy
    have hI : its.toArray[i]? = some u := by simpa using hu
    have hI2 : its2.toArray[i]? = some u2 := by simpa using hu2
    have D1 := drawsB (prog := X.prog) (w := X.w) (A := X.A.in1) (by simpa using I.ok.hd hc) b1 i1 a n1 its.toArray
    have D2 := drawsB (prog := X.prog) (w := X.w) (A := X.A.in1) (by simpa using I.ok.hd hc) b2 i2 c n2 its2.toArray
    refine wpAny_pyNext_zipD2_item D D1 D2 hz hTI hTO ⟨e1, p1⟩ ⟨e2, p2⟩ (Array.getElem?_eq_some_iff.mp hI).1 (Array.getElem?_eq_some_iff.mp hI2).1 fun v1 v2 h2 tk y1 y2 z2 TO2 st1 st2 hT _ hk => ?_
    cases Option.some.inj (hI.symm.trans y1)
    cases Option.some.inj (hI2.symm.trans y2)
    have lz : z < s.heap.objs.size := Heap.lt_size hz
    refine ⟨_, rfl, wpAny_letOwnedTupleGo_zip (s := { s with heap := h2, toks := tk }) z2 fun h3 z3 sb => ?_⟩
    have hT3 : h3.get? s.heap.objs.size = some { cls := .type "tuple", data := .seq #[u, u2] } := (sb.2 _ (Nat.ne_of_gt lz)).trans hT
    have fresh := I.hok.fresh (Nat.le_refl s.heap.objs.size)
    have keep : ∀ q o, q ≠ z → q ≠ TO → q ≠ i1 → q ≠ i2 → s.heap.get? q = some o → h3.get? q = some o := fun q o a1 a2 a3 a4 e => (sb.2 q a1).trans (hk q o a1 a2 a3 a4 e)
    have I1 : Inv X pins σ (upd H s.heap.objs.size (.tup [x, y])) { s with heap := h3, toks := tk } := by
      refine I.turnedNew (ch := [z, TI, TO, i1, i2]) (fun q o hb e => keep q o ?_ ?_ ?_ ?_ e) hf (Nat.le_refl _) ⟨by show 2 ≤ sizeLine; decide, [u, u2], .cons ru (.cons ru2 .nil), ⟨_, hT3, rfl, _, rfl⟩⟩
      all_goals exact fun e2 => hb (by simp [e2])
    obtain ⟨_, g1, _⟩ := iterB_live e1
    obtain ⟨_, g2, _⟩ := iterB_live e2
    refine ⟨.ref s.heap.objs.size, _, I1, rfl, ⟨_, x, y, rfl, fresh, rfl, fun l hl => by rw [inv_Binj I hl hqx]; exact hx, fun l hl => by rw [inv_Binj I hl hqy]; exact hy⟩, ⟨z3, ?_, ⟨u, u2, ?_⟩, ?_, ?_⟩, fun q hq => ?_⟩
    · exact keep TI _ D.TIz D.TITO D.TIi1 D.TIi2 hTI
    · exact (sb.2 TO D.TOz).trans TO2
    · exact iterB_at st1.1 fun o e => (sb.2 i1 (Ne.symm D.zi1)).trans e
    · exact iterB_at st2.1 fun o e => (sb.2 i2 (Ne.symm D.zi2)).trans e
    · have q' : q = z ∨ q = TI ∨ q = TO ∨ q = i1 ∨ q = i2 := by simpa using hq
      have lq : q < s.heap.objs.size := by
        rcases q' with rfl | rfl | rfl | rfl | rfl
        · exact lz
        · exact Heap.lt_size hTI
        · exact Heap.lt_size hTO
        · exact Heap.lt_size g1
        · exact Heap.lt_size g2
      rw [upd_ne (Nat.ne_of_lt lq)]
      exact (hf q hq).1
  · intro X hP hw hK hc i pins s σ H E I hf st hg
    cases hP; cases hw; cases hK
    obtain ⟨hz, hTI, ⟨x0, y0, hTO⟩, e1, e2⟩ := st
    obtain ⟨xs, ys, hqx, hqy, hend⟩ := hg
    obtain ⟨its, rv, p1⟩ := inv_B I hqx
    obtain ⟨its2, rv2, p2⟩ := inv_B I hqy
    have l1 := rv.length
    have l2 := rv2.length
    have D1 := drawsB (prog := X.prog) (w := X.w) (A := X.A.in1) (by simpa using I.ok.hd hc) b1 i1 a n1 its.toArray
    have D2 := drawsB (prog := X.prog) (w := X.w) (A := X.A.in1) (by simpa using I.ok.hd hc) b2 i2 c n2 its2.toArray
    have m1 : i ≤ its.toArray.size := by rw [List.size_toArray, ← l1]; omega
    have m2 : i ≤ its2.toArray.size := by rw [List.size_toArray, ← l2]; omega
    have m3 : i = its.toArray.size ∨ i = its2.toArray.size := by rw [List.size_toArray, List.size_toArray, ← l1, ← l2]; omega
    refine wpAny_pyNext_zipD2_end D D1 D2 hz hTI hTO (And.intro e1 p1) (And.intro e2 p2) m1 m2 m3 fun h2 tk hk => ?_
    have keep : ∀ q o, q ∉ [z, TI, TO, i1, i2] → s.heap.get? q = some o → h2.get? q = some o := fun q o hb e => hk q o (fun e2 => hb (by simp [e2])) (fun e2 => hb (by simp [e2])) (fun e2 => hb (by simp [e2])) (fun e2 => hb (by simp [e2])) e
    exact ⟨rfl, I.turnedL (t' := tk) (ch := [z, TI, TO, i1, i2]) keep hf⟩
def iZipB (K : PySem.W.Frag) (ta : L2.TA) : TI := fun σ H R => ta σ H fun vs H1 => ∃ a c xs ys, vs = [.ref a, .ref c] ∧ SqX K H1 a xs ∧ SqX K H1 c ys ∧
  ∀ (J : It) (G : Hp → Prop), Walk J (min xs.length ys.length) G (YPair (fun i => xs[i]?) fun i => ys[i]?) → (∀ H2, (∀ o, H1 a = some o → H2 a = some o) → (∀ o, H1 c = some o → H2 c = some o) → G H2) → R J H1
theorem walk_zipB {K : PySem.W.Frag} {b1 b2 : Bool} {a c : Addr} {xs ys : List V} : Walk (ItzB K b1 b2 a c) (min xs.length ys.length) (fun H => SqB b1 K H a xs ∧ SqB b2 K H c ys) (YPair (fun i => xs[i]?) fun i => ys[i]?) := by
  constructor
  · intro i _ hi q
    have h1 : i < xs.length := by omega
    have h2 : i < ys.length := by omega
    exact ⟨xs, ys, xs[i], ys[i], q.1, q.2, by simp [h1], by simp [h2]⟩
  · exact fun _ q => ⟨xs, ys, q.1, q.2, rfl⟩
  · rintro i H v H' _ q ⟨T, x, z, h1, h2, h3, h4, h5⟩
    exact ⟨T, x, z, h1, h2, h3, h4 xs q.1, h5 ys q.2⟩
theorem sqB_keep {K : PySem.W.Frag} {b : Bool} {H1 H2 : Hp} {a : Addr} {xs : List V} (h : SqB b K H1 a xs) (k : ∀ o, H1 a = some o → H2 a = some o) : SqB b K H2 a xs := by
  cases b
  · exact Or.imp (Or.imp (k _) fun ⟨o, z⟩ => ⟨o, k _ z⟩) id h
  · exact Or.imp (Or.imp (k _) fun ⟨o, z⟩ => ⟨o, k _ z⟩) id h
theorem sqX_B {K : PySem.W.Frag} {H : Hp} {a : Addr} {xs : List V} (h : SqX K H a xs) : ∃ b, SqB b K H a xs := h.elim (fun h => ⟨true, h⟩) fun h => ⟨false, h⟩
theorem atB_lt {b : Bool} {h : Heap} {a : Addr} {items : Array Value} (x : AtB b h a items) : a < h.objs.size := by
  cases b
  · obtain ⟨o, ho, _⟩ := x
    exact Heap.lt_size ho
  · obtain ⟨o, ho, _⟩ := x
    exact Heap.lt_size ho
theorem pi_zipX {X : Cx} {e e2 : Expr} {ta : L2.TA} {p pos tpos : Pos} {elts : List Expr} {kk : Nat} (hg : Gl X "zip") (hm : X.mg "zip" = none) (ha : PA X [e, e2] ta)
    (hs : starEach [e, e2] X.env = (false, eval e X.env) :: starEach [e2] X.env := by rfl) (hpl : (backTo pos (starEach [e2] X.env)).any (·.1) = false := by rfl) :
    PI X (.Tuple elts kk tpos) (.Call (.Name "zip" p) [e, e2] [] pos) (iZipB X.K ta) := by
  refine ⟨fun pins s σ H R I h => ?_⟩
  have go := ha.run pos pins s σ H _ I h
  refine Call_ (ld_blt I hg hm boot_zip (callWith_type1 (thn go fun us s1 z => ?_) hs hpl))
  obtain ⟨vs, H1, I1, r1, a, c, xs, ys, rfl, hx, hy, q⟩ := z
  obtain ⟨b1, hx⟩ := sqX_B hx
  obtain ⟨b2, hy⟩ := sqX_B hy
  match us, r1 with
  | [_, _], .cons r (.cons r2 .nil) =>
  cases r
  cases r2
  obtain ⟨its, rv, p1⟩ := inv_B I1 hx
  obtain ⟨its2, rv2, p2⟩ := inv_B I1 hy
  have la := atB_lt p1
  have lc := atB_lt p2
  have D : ZipSep2 (s1.heap.objs.size + 4) (s1.heap.objs.size + 2) (s1.heap.objs.size + 3) s1.heap.objs.size (s1.heap.objs.size + 1) [s1.heap.objs.size, a] [s1.heap.objs.size + 1, c] :=
    zip_sep2 (fun b hb => by cases List.mem_singleton.mp hb; exact la) (fun b hb => by cases List.mem_singleton.mp hb; exact lc)
  refine zip_begins2 (beginsB b1 a its.toArray) (beginsB b2 c its2.toArray) p1 p2 fun h2 hz hTI hTO e1 e2 _ hk => wpAny_pyIter_zip hz ?_
  have I2 : Inv X pins σ H1 { s1 with heap := h2 } := I1.kept (t' := s1.toks) hk
  refine ⟨s1.heap.objs.size + 4, [s1.heap.objs.size + 4, s1.heap.objs.size + 2, s1.heap.objs.size + 3, s1.heap.objs.size, s1.heap.objs.size + 1], _, _, H1, rfl, I2, turn_zipB (b1 := b1) (b2 := b2) D (Nat.ne_of_lt la) (Nat.ne_of_lt (Nat.lt_succ_of_lt lc)), ⟨hz, hTI, ⟨_, _, hTO⟩, iterB_new e1, iterB_new e2⟩, fun b hb => ?_, q _ _ walk_zipB fun H2 k1 k2 => ⟨sqB_keep hx k1, sqB_keep hy k2⟩⟩
  have lb : s1.heap.objs.size ≤ b := by
    have b' : b = s1.heap.objs.size + 4 ∨ b = s1.heap.objs.size + 2 ∨ b = s1.heap.objs.size + 3 ∨ b = s1.heap.objs.size ∨ b = s1.heap.objs.size + 1 := by simpa using hb
    rcases b' with e | e | e | e | e <;> rw [e] <;> first | exact Nat.le_refl _ | exact Nat.le_add_right _ _
  exact I1.fpOk lb (I1.hok.fresh lb)
end TG
set_option maxHeartbeats 400000
/-! values of any kind, looked at as polynomials: a list or tuple of terms, a term a list or tuple of two, powers and a share -/
namespace TG
open PySem PySem.Spec L2
open PyProof.Rows hiding St
/-- none: no list and no tuple; some: one of these -/
def SeqV (K : PySem.W.Frag) (H : Hp) (v : V) (r : Option (List V)) : Prop := match r with
  | none => ∃ n, HasTy K H v n ∧ (n == "list" || n == "tuple") = false
  | some xs => ∃ a, v = .ref a ∧ (H a = some (.lst xs) ∨ H a = some (.tup xs)) ∧ xs.length ≤ 900
theorem SeqV.ty {K : PySem.W.Frag} {H : Hp} {v : V} {r : Option (List V)} (h : SeqV K H v r) : ∃ n, HasTy K H v n ∧ (n == "list" || n == "tuple") = r.isSome := by
  cases r with
  | none => exact h
  | some xs =>
    obtain ⟨a, rfl, h | h, _⟩ := h
    · exact ⟨_, HasTy.lst h, rfl⟩
    · exact ⟨_, HasTy.tup h, rfl⟩
theorem SeqV.same {K : PySem.W.Frag} {H H' : Hp} {v : V} {r : Option (List V)} (h : SeqV K H v r) (s : Same H H') : SeqV K H' v r := by
  cases r with
  | none =>
    obtain ⟨n, h1, h2⟩ := h
    exact ⟨n, h1.same s, h2⟩
  | some xs =>
    obtain ⟨a, rfl, h, l⟩ := h
    exact ⟨a, rfl, h.imp (s _ _) (s _ _), l⟩
abbrev Rw := Option (List V)
abbrev Te := Option (List (V × Rw))
abbrev Vl := Option (List (V × Te))
def AnyV (K : PySem.W.Frag) (H : Hp) (v : V) : Prop := ∃ n, HasTy K H v n
theorem AnyV.same {K : PySem.W.Frag} {H H' : Hp} {v : V} (h : AnyV K H v) (s : Same H H') : AnyV K H' v := by
  obtain ⟨n, h⟩ := h
  exact ⟨n, h.same s⟩
def RowV (K : PySem.W.Frag) (H : Hp) (v : V) (r : Rw) : Prop := SeqV K H v r ∧ ∀ xs, r = some xs → ∀ x ∈ xs, AnyV K H x
def TermV (K : PySem.W.Frag) (H : Hp) (v : V) (t : Te) : Prop := SeqV K H v (t.map fun ys => ys.map Prod.fst) ∧ ∀ ys, t = some ys → ∀ y ∈ ys, RowV K H y.1 y.2
def PolyV (K : PySem.W.Frag) (H : Hp) (v : V) (p : Vl) : Prop := SeqV K H v (p.map fun ys => ys.map Prod.fst) ∧ ∀ ys, p = some ys → ∀ y ∈ ys, TermV K H y.1 y.2
theorem RowV.same {K : PySem.W.Frag} {H H' : Hp} {v : V} {r : Rw} (h : RowV K H v r) (s : Same H H') : RowV K H' v r := ⟨h.1.same s, fun xs e x hx => (h.2 xs e x hx).same s⟩
theorem TermV.same {K : PySem.W.Frag} {H H' : Hp} {v : V} {t : Te} (h : TermV K H v t) (s : Same H H') : TermV K H' v t := ⟨h.1.same s, fun xs e x hx => (h.2 xs e x hx).same s⟩
theorem PolyV.same {K : PySem.W.Frag} {H H' : Hp} {v : V} {p : Vl} (h : PolyV K H v p) (s : Same H H') : PolyV K H' v p := ⟨h.1.same s, fun xs e x hx => (h.2 xs e x hx).same s⟩
theorem RowV.any {K : PySem.W.Frag} {H : Hp} {v : V} {r : Rw} (h : RowV K H v r) : AnyV K H v := by
  obtain ⟨n, h1, _⟩ := h.1.ty
  exact ⟨n, h1⟩
/-- an integer of that value, else 0 -/
def vlV : V → Int
  | .int i => i
  | _ => 0
def zeroV : V → Bool
  | .int i => decide (i = 0)
  | _ => false
def rowB (r : Rw) (many : Nat) (hi : V) : Bool := match r with
  | none => false
  | some xs => decide (xs.length = many) && xs.all fun x => withinV x (.int 0) hi
/-- the powers are of this choice -/
def offB (c : List Int) (xs : List V) : Bool := (c.zip xs).all fun p => decide (p.1 = 1) || zeroV p.2
def termB (c : List Int) (t : Te) : Bool := match t with
  | some [(_, r), (s, _)] => (rowB r c.length (.int 60) && withinV s (.int 1) .non) && offB c (r.getD [])
  | _ => false
def powT (t : Te) : List Int := match t with
  | some ((_, some xs) :: _) => xs.map vlV
  | _ => []
def ascB : List (List Int) → Bool
  | a :: b :: r => HT.lexLt a b && ascB (b :: r)
  | _ => true
theorem asc_zip : ∀ L : List (List Int), ascB L = ((L.zip (L.drop 1)).map fun p => HT.lexLt p.1 p.2).all id
  | [] => rfl
  | [_] => rfl
  | a :: b :: r => by
    show (HT.lexLt a b && ascB (b :: r)) = (HT.lexLt a b && (((b :: r).zip r).map fun p => HT.lexLt p.1 p.2).all id)
    rw [asc_zip (b :: r)]
    rfl
def polyB (c : List Int) (p : Vl) : Bool := match p with
  | none => false
  | some ts => ts.all (fun y => termB c y.2) && ascB (ts.map fun y => powT y.2)
theorem within_int {v lo hi : V} (h : withinV v lo hi = true) : v = .int (vlV v) := by
  cases v <;> first | rfl | cases h
theorem row_ints {r : Rw} {m : Nat} {hi : V} (h : rowB r m hi = true) : ∃ ns : List Int, r = some (ns.map V.int) ∧ ns.length = m := by
  cases r with
  | none => cases h
  | some xs =>
    obtain ⟨h1, h2⟩ := Bool.and_eq_true_iff.mp (show (decide (xs.length = m) && xs.all fun x => withinV x (.int 0) hi) = true from h)
    refine ⟨xs.map vlV, congrArg some ?_, by rw [List.length_map]; exact of_decide_eq_true h1⟩
    rw [List.map_map]
    exact (List.map_id _).symm.trans (List.map_congr_left fun x hx => within_int (List.all_eq_true.mp h2 x hx))
theorem term_two {c : List Int} {t : Te} (h : termB c t = true) : ∃ (p s : V) (ns : List Int) (i : Int) (q : Rw), t = some [(p, some (ns.map V.int)), (s, q)] ∧ ns.length = c.length ∧ s = .int i ∧ powT t = ns := by
  match t, h with
  | some [(p, r), (s, q)], h =>
    obtain ⟨h1, _⟩ := Bool.and_eq_true_iff.mp (show ((rowB r c.length (.int 60) && withinV s (.int 1) .non) && offB c (r.getD [])) = true from h)
    obtain ⟨h1, h2⟩ := Bool.and_eq_true_iff.mp h1
    obtain ⟨ns, rfl, hl⟩ := row_ints h1
    refine ⟨p, s, ns, vlV s, q, rfl, hl, within_int h2, ?_⟩
    show (ns.map V.int).map vlV = ns
    rw [List.map_map]
    exact List.map_id ns
  | none, h => cases h
  | some [], h => cases h
  | some [_], h => cases h
  | some (_ :: _ :: _ :: _), h => cases h
/-- a tuple of these integers, written or laid -/
def TupS (K : PySem.W.Frag) (H : Hp) (v : V) (c : List Int) : Prop := ∃ a, v = .ref a ∧ SqT K H a (c.map V.int)
theorem TupS.same {K : PySem.W.Frag} {H H' : Hp} {v : V} {c : List Int} (h : TupS K H v c) (s : Same H H') : TupS K H' v c := by
  obtain ⟨a, e, h⟩ := h
  exact ⟨a, e, sqT_same h s⟩
theorem TupS.updL {K : PySem.W.Frag} {H : Hp} {v : V} {c : List Int} {D : Addr} {xs ys : List V} (h : TupS K H v c) (hD : H D = some (.lst xs)) : TupS K (L2.upd H D (.lst ys)) v c := by
  obtain ⟨a, e, h⟩ := h
  refine ⟨a, e, h.imp (fun h => ?_) id⟩
  rcases h with h | ⟨o, h⟩
  · refine .inl ((upd_ne ?_).trans h)
    rintro rfl
    rw [h] at hD
    cases hD
  · refine .inr ⟨o, (upd_ne ?_).trans h⟩
    rintro rfl
    rw [h] at hD
    cases hD
theorem tupsS_push {K : PySem.W.Frag} {H : Hp} {D : Addr} {ds : List V} {L : List (List Int)} {y : V} {c : List Int} (hD : H D = some (.lst ds)) (h : Paired (TupS K H) ds L) (hy : TupS K H y c) : Paired (TupS K (L2.upd H D (.lst (ds ++ [y])))) (ds ++ [y]) (L ++ [c]) :=
  paired_snoc (hy.updL hD) (paired_imp (fun _ _ r => r.updL hD) h)
/-- 0 or 1 each, at most three -/
def ChV (c : List Int) : Prop := (∀ s ∈ c, s = 0 ∨ s = 1) ∧ c.length ≤ 3
def spRow (K : PySem.W.Frag) : Sp := fun vs H Q _ => ∃ (v hi : V) (m : Nat) (r : Rw), vs = [v, .int (m : Int), hi] ∧ RowV K H v r ∧ OptI hi ∧ ∀ H', Same H H' → Q (.bl (rowB r m hi)) H'
def spTerm (K : PySem.W.Frag) : Sp := fun vs H Q _ => ∃ (u v : V) (c : List Int) (t : Te), vs = [u, v] ∧ SeqI H u c ∧ ChV c ∧ TermV K H v t ∧ ∀ H', Same H H' → Q (.bl (termB c t)) H'
def spPoly (K : PySem.W.Frag) : Sp := fun vs H Q _ => ∃ (u v : V) (c : List Int) (p : Vl), vs = [.int (c.length : Int), u, v] ∧ SeqI H u c ∧ ChV c ∧ PolyV K H v p ∧ ∀ H', Same H H' → Q (.bl (polyB c p)) H'
end TG
namespace TF52
open PySem PySem.Spec L2 TG TA
open PyProof.Rows hiding St
/-! ### what is a polynomial, of values of any kind -/
abbrev sRW : Stmt := top 31
abbrev sTerm : Stmt := top 33
abbrev sPoly : Stmt := top 32
theorem scRW : FnScope ["value", "many", "most", "item"] ["value", "many", "most"] (defScope sRW) := ⟨rfl, rfl, rfl, by decide +kernel, rfl, by decide +kernel, by decide +kernel⟩
theorem scTerm : FnScope ["choice", "value", "powers", "share", "sign", "power"] ["choice", "value"] (defScope sTerm) := ⟨rfl, rfl, rfl, by decide +kernel, rfl, by decide +kernel, by decide +kernel⟩
theorem scPoly : FnScope ["many", "choice", "value", "term", "powers", "one", "other"] ["many", "choice", "value"] (defScope sPoly) := ⟨rfl, rfl, rfl, by decide +kernel, rfl, by decide +kernel, by decide +kernel⟩
section
variable {P : Program} {w : World} {K : PySem.W.Frag} {mg : Str → Option Value} {base : Heap} {f f1 f2 f3 f4 f5 : Addr} {fd fd1 fd2 fd3 fd4 fd5 : FuncData}
theorem ok_rw (F : Fun K "is_row_within" "is_row_within" sRW f fd) (T : Bn mg) (D_is_within : Df K mg "is_within" sWithin f1 fd1 ["value", "least", "most"]) (G_is_within : FnOk P w K mg base CX0 2 f1 fd1 ["value", "least", "most"] (spWithin K)) : FnOk P w K mg base CX0 3 f fd ["value", "many", "most"] (spRow K) := by
  refine F.ok scRW (fun vs H Q E h => ?_) (fun cdv A outer s H vs Q E hr h => ?_)
  · obtain ⟨v, hi, m, r, rfl, _⟩ := h
    rfl
  obtain ⟨v, hi, m, r, rfl, hv, ho, q⟩ := h
  obtain ⟨n, hn, hb⟩ := hv.1.ty
  refine ⟨_, (pss_cons (ps_if (PW.pt (pw_or (pt_not (pt_val (pe_callB call_isiT (by rfl) T.b_isinstance (by decide +kernel) (pa_cons (pv 0) (pa_cons (pe_tup (pa_cons (pe_bltn (v := .ty "list") (u := .type "list") (by rfl) T.b_list (by decide +kernel) rfl) (pa_cons (pe_bltn (v := .ty "tuple") (u := .type "tuple") (by rfl) T.b_tuple (by decide +kernel) rfl) pa_nil))) pa_nil))))) (pw_or1 (pt_cmpR op_ne (pe_callB call_len_seq (by rfl) T.b_len (by decide +kernel) (pa_cons (pv 0) pa_nil)) (pv 1) (nomark _))))) (pss_one (ps_ret pe_bl)) pss_nil)
      (pss_one (ps_ret (pe_callB (cr_all rfl) (by rfl) T.b_all (by decide +kernel) (pa_cons (pe_lc (own := [("item", 3)]) (g := (gName 3)) (by rfl) scRW.nd (pi_seq (pv 0)) (blkOk_by (own := [("item", 3)]) (N := ["value", "many", "most", "item"]) (sc := defScope sRW) (by decide +kernel)) (fun _ _ _ _ _ => (pg_name (i := 3) scRW.nd rfl (.inl rfl))) (fun _ _ _ _ _ => pts_nil) (fun _ _ _ _ _ => (pe_cd D_is_within G_is_within hr (by decide) (pa_cons (pv 3) (pa_cons pe_int (pa_cons (pv 2) pa_nil)))))) pa_nil))))), ?_⟩
  refine ⟨_, rfl, (by show 2 ≤ sizeLine; decide), fun tp htp => ?_⟩
  have s1 := new_same (o := .tup [.ty "list", .ty "tuple"]) htp
  refine ⟨v, tp, _, _, [.type "list", .type "tuple"], _, rfl, upd_same, .cons (.ty _) (.cons (.ty _) .nil), tyx_same hn.1 s1, kit_lt hn.2, _, rfl, ?_⟩
  rw [hb]
  have hv1 := hv.same s1
  generalize L2.upd H tp (.tup [.ty "list", .ty "tuple"]) = H1 at s1 hv1 ⊢
  cases r with
  | none => exact iteT (q H1 s1)
  | some xs =>
    obtain ⟨⟨a, rfl, hk, hl⟩, hx⟩ := hv1
    refine iteF ⟨_, rfl, a, xs, rfl, hk.imp SqL.of SqT.of, _, rfl, rfl, _, rfl, ?_⟩
    by_cases c : xs.length = m
    · rw [show (!decide (V.int (xs.length : Nat) = V.int (m : Int))) = false from by rw [decide_eq_true (by rw [c])]; rfl]
      refine iteF ?_
      refine ⟨_, rfl, a, xs, rfl, hk.imp SqL.of SqT.of, fun J G wk hGG D hD => ?_⟩
      have hl : xs.length ≤ 900 := hl
      have aD : a ≠ D := by
        rcases hk with h | h
        · exact ne_of_none h hD
        · exact ne_of_none h hD
      refine lc_it wk (fun i H2 => Same H1 H2 ∧ H2 D = some (.lst ((xs.map fun x => V.bl (withinV x (.int 0) hi)).take i))) ?_ (fun i G2 _ h => hGG G2 fun o ho => h.1 _ _ ho) ?_ ?_
      · exact ⟨new_same hD, by rw [upd_same, List.take_zero]⟩
      · rintro i x _ H2 hi' ⟨s2, h3⟩ ⟨rfl, hxi⟩
        obtain ⟨n2, hn2⟩ := (hx xs rfl x (List.mem_of_getElem? hxi))
        refine ⟨rfl, _, rfl, _, rfl, x, _, _, n2, rfl, hn2.same s2, .inr ⟨0, rfl⟩, ho, _, h3, ?_, ?_⟩
        · rw [List.length_take, List.length_map]
          exact small1000 (by omega)
        · exact ⟨same_put s2 hD, by rw [upd_same, take_snoc (x := V.bl (withinV x (.int 0) hi)) (by rw [List.getElem?_map, hxi]; rfl)]⟩
      · rintro H2 ⟨s2, h3⟩
        rw [List.take_of_length_le (by rw [List.length_map]; exact Nat.le_refl _)] at h3
        refine ⟨D, xs.map fun x => withinV x (.int 0) hi, rfl, SqL.of (by rw [h3, List.map_map]; rfl), ?_⟩
        have e : rowB (some xs) m hi = (xs.map fun x => withinV x (.int 0) hi).all id := by
          show (decide (xs.length = m) && _) = _
          rw [decide_eq_true c, List.all_map]
          rfl
        rw [e] at q
        exact q H2 (s1.trans s2)
    · rw [show (!decide (V.int (xs.length : Nat) = V.int (m : Int))) = true from by rw [decide_eq_false (fun e => c (by injection e with e; omega))]; rfl]
      have e : rowB (some xs) m hi = false := by show (decide (xs.length = m) && _) = false; rw [decide_eq_false c]; rfl
      rw [e] at q
      exact iteT (q H1 s1)
theorem ok_term (F : Fun K "is_term" "is_term" sTerm f fd) (T : Bn mg) (GP : ∃ t, mg "GREATEST_POWER" = some (.int 60 t)) (D_is_row_within : Df K mg "is_row_within" sRW f1 fd1 ["value", "many", "most"]) (G_is_row_within : FnOk P w K mg base CX0 3 f1 fd1 ["value", "many", "most"] (spRow K))
    (D_is_within : Df K mg "is_within" sWithin f2 fd2 ["value", "least", "most"]) (G_is_within : FnOk P w K mg base CX0 2 f2 fd2 ["value", "least", "most"] (spWithin K)) : FnOk P w K mg base CX0 4 f fd ["choice", "value"] (spTerm K) := by
  refine F.ok scTerm (fun vs H Q E h => ?_) (fun cdv A outer s H vs Q E hr h => ?_)
  · obtain ⟨u, v, c, t, rfl, _⟩ := h
    rfl
  obtain ⟨u, v, c, t, rfl, hu, ⟨hc, hc3⟩, hv, q⟩ := h
  obtain ⟨tg, gGP⟩ := GP
  obtain ⟨n, hn, hb⟩ := hv.1.ty
  refine ⟨_, (pss_cons (ps_if (PW.pt (pw_or (pt_not (pt_val (pe_callB call_isiT (by rfl) T.b_isinstance (by decide +kernel) (pa_cons (pv 1) (pa_cons (pe_tup (pa_cons (pe_bltn (v := .ty "list") (u := .type "list") (by rfl) T.b_list (by decide +kernel) rfl) (pa_cons (pe_bltn (v := .ty "tuple") (u := .type "tuple") (by rfl) T.b_tuple (by decide +kernel) rfl) pa_nil))) pa_nil))))) (pw_or1 (pt_cmpR op_ne (pe_callB call_len_seq (by rfl) T.b_len (by decide +kernel) (pa_cons (pv 1) pa_nil)) pe_int (nomark _))))) (pss_one (ps_ret pe_bl)) pss_nil)
      (pss_cons (ps_asg (pv 1) (pg_or2 (pg_tup (by rfl) (pgs_cons (pg_name (i := 2) scTerm.nd rfl (.inl rfl)) (pgs_cons (pg_name (i := 3) scTerm.nd rfl (.inl rfl)) pgs_nil))) (pg_lst (by rfl) (pgs_cons (pg_name (i := 2) scTerm.nd rfl (.inl rfl)) (pgs_cons (pg_name (i := 3) scTerm.nd rfl (.inl rfl)) pgs_nil)))))
      (pss_cons (ps_if (PW.pt (pw_or (pt_not (pt_val (pe_cd D_is_row_within G_is_row_within hr (by decide) (pa_cons (pv 2) (pa_cons (pe_callB call_len_seq (by rfl) T.b_len (by decide +kernel) (pa_cons (pv 0) pa_nil)) (pa_cons (pe_glob (v := .int 60) rfl gGP ⟨_, rfl⟩) pa_nil)))))) (pw_or1 (pt_not (pt_val (pe_cd D_is_within G_is_within hr (by decide) (pa_cons (pv 3) (pa_cons pe_int (pa_cons pe_non pa_nil))))))))) (pss_one (ps_ret pe_bl)) pss_nil)
      (pss_one (ps_ret (pe_callB (cr_all rfl) (by rfl) T.b_all (by decide +kernel) (pa_cons (pe_lc (own := [("sign", 4), ("power", 5)]) (g := (gTup K 2 (gCons (gName 4) (gCons (gName 5) gNil)))) (by rfl) scTerm.nd (pi_zipX rfl T.b_zip (pa_cons (pv 0) (pa_cons (pv 2) pa_nil))) (blkOk_by (own := [("sign", 4), ("power", 5)]) (N := ["choice", "value", "powers", "share", "sign", "power"]) (sc := defScope sTerm) (by decide +kernel)) (fun _ _ _ _ _ => (pg_tup (by rfl) (pgs_cons (pg_name (i := 4) scTerm.nd rfl (.inl rfl)) (pgs_cons (pg_name (i := 5) scTerm.nd rfl (.inl rfl)) pgs_nil)))) (fun _ _ _ _ _ => pts_nil) (fun _ _ _ _ _ => (pe_or (pe_cmpR op_eq (pv 4) pe_int (nomark _)) (pe_one (pe_cmpR op_eq (pv 5) pe_int (nomark _)))))) pa_nil))))))), ?_⟩
  refine ⟨_, rfl, (by show 2 ≤ sizeLine; decide), fun tp htp => ?_⟩
  have s1 := new_same (o := .tup [.ty "list", .ty "tuple"]) htp
  refine ⟨v, tp, _, _, [.type "list", .type "tuple"], _, rfl, upd_same, .cons (.ty _) (.cons (.ty _) .nil), tyx_same hn.1 s1, kit_lt hn.2, _, rfl, ?_⟩
  rw [hb]
  have hv1 := hv.same s1
  have hu1 := hu.same s1
  generalize L2.upd H tp (.tup [.ty "list", .ty "tuple"]) = H1 at s1 hv1 hu1 ⊢
  cases t with
  | none => exact iteT (q H1 s1)
  | some ys =>
    obtain ⟨⟨a, rfl, hk, hl⟩, hx⟩ := hv1
    have hk : H1 a = some (.lst (ys.map Prod.fst)) ∨ H1 a = some (.tup (ys.map Prod.fst)) := hk
    refine iteF ⟨_, rfl, a, ys.map Prod.fst, rfl, hk.imp SqL.of SqT.of, rfl, _, rfl, ?_⟩
    by_cases c2 : ys.length = 2
    · rw [show (!decide (V.int ((ys.map Prod.fst).length : Nat) = V.int 2)) = false from by rw [decide_eq_true (by rw [List.length_map, c2]; rfl)]; rfl]
      obtain ⟨⟨p, r⟩, ⟨sh, r2⟩, rfl⟩ : ∃ y z, ys = [y, z] := by
        match ys, c2 with
        | [y, z], _ => exact ⟨y, z, rfl⟩
      have hp := hx _ rfl (p, r) List.mem_cons_self
      have hs := (hx _ rfl (sh, r2) (List.mem_cons_of_mem _ List.mem_cons_self)).any
      obtain ⟨b, rfl, hbk⟩ := hu1
      refine iteF ⟨_, rfl, apart2 hk rfl ?_⟩
      refine ⟨_, _, rfl, _, _, rfl, rfl, ?_⟩
      refine ⟨_, rfl, _, rfl, b, _, rfl, hbk.imp SqL.of SqT.of, p, .int 60, c.length, r, by rw [List.length_map]; rfl, hp, .inr ⟨60, rfl⟩, fun H2 s2 => ?_⟩
      have eq0 : termB c (some [(p, r), (sh, r2)]) = ((rowB r c.length (.int 60) && withinV sh (.int 1) .non) && offB c (r.getD [])) := rfl
      cases hrow : rowB r c.length (.int 60) with
      | false =>
        rw [eq0, hrow] at q
        exact ⟨_, rfl, iteT (q H2 (s1.trans s2))⟩
      | true =>
      obtain ⟨n2, hn2⟩ := hs
      refine ⟨_, rfl, iteF ⟨_, rfl, sh, _, _, n2, rfl, hn2.same s2, .inr ⟨1, rfl⟩, .inl rfl, ?_⟩⟩
      cases hsh : withinV sh (.int 1) .non with
      | false =>
        rw [eq0, hrow, hsh] at q
        exact ⟨_, rfl, iteT (q H2 (s1.trans s2))⟩
      | true =>
      obtain ⟨ns, rfl, hns⟩ := row_ints hrow
      obtain ⟨pa, rfl, hpk, _⟩ := hp.1
      have hbk2 := hbk.imp (s2 _ _) (s2 _ _)
      have hpk2 := hpk.imp (s2 _ _) (s2 _ _)
      refine ⟨_, rfl, iteF ⟨_, rfl, _, rfl, b, pa, _, _, rfl, hbk2.imp SqL.of SqT.of, hpk2.imp SqL.of SqT.of, fun J G wk hGG D hD => ?_⟩⟩
      have oc : c.length = ns.length := hns.symm
      refine lc_it wk (fun i H3 => Same H2 H3 ∧ H3 D = some (.lst (((c.zip ns).map fun p => V.bl (decide (p.1 = 1) || decide (p.2 = 0))).take i))) ?_ (fun i G2 _ h => hGG G2 (fun o ho => h.1 _ _ ho) (fun o ho => h.1 _ _ ho)) ?_ ?_
      · exact ⟨new_same hD, by rw [upd_same, List.take_zero]⟩
      · rintro i x G3 G4 hi' ⟨s3, h3⟩ ⟨t0, x1, y1, rfl, ht0, rfl, e1, e2⟩
        have e1 : (c.map V.int)[i]? = some x1 := e1
        have e2 : (ns.map V.int)[i]? = some y1 := e2
        rw [List.getElem?_map] at e1 e2
        obtain ⟨i1, g1, rfl⟩ := Option.map_eq_some_iff.mp e1
        obtain ⟨i2, g2, rfl⟩ := Option.map_eq_some_iff.mp e2
        have s4 := new_same (o := .tup [.int i1, .int i2]) ht0
        have h4 := s4 _ _ h3
        have gz : (c.zip ns)[i]? = some (i1, i2) := by rw [List.getElem?_zip_eq_some]; exact ⟨g1, g2⟩
        refine ⟨t0, _, rfl, SqT.of upd_same, rfl, _, _, rfl, _, _, rfl, rfl, rfl, ?_⟩
        have fin : ∀ z : Bool, z = (decide (i1 = 1) || decide (i2 = 0)) → ∃ acc, (upd G3 t0 (.tup [.int i1, .int i2])) D = some (.lst acc) ∧ acc.length < sizeLine ∧ Same H2 (upd (upd G3 t0 (.tup [.int i1, .int i2])) D (.lst (acc ++ [.bl z]))) ∧ upd (upd G3 t0 (.tup [.int i1, .int i2])) D (.lst (acc ++ [.bl z])) D = some (.lst (((c.zip ns).map fun p => V.bl (decide (p.1 = 1) || decide (p.2 = 0))).take (i + 1))) := by
          rintro z rfl
          refine ⟨_, h4, ?_, same_put (s3.trans s4) hD, ?_⟩
          · rw [List.length_take, List.length_map, List.length_zip]
            exact small1000 (by omega)
          · rw [upd_same, take_snoc (x := V.bl (decide (i1 = 1) || decide (i2 = 0))) (by rw [List.getElem?_map, gz]; rfl)]
        refine ⟨_, rfl, rfl, _, rfl, ?_⟩
        by_cases c1 : i1 = 1
        · rw [show decide (V.int i1 = V.int 1) = true from decide_eq_true (by rw [c1])]
          exact fin true (by rw [decide_eq_true c1]; rfl)
        · rw [show decide (V.int i1 = V.int 1) = false from decide_eq_false (fun e => c1 (by injection e))]
          refine ⟨_, rfl, rfl, fin _ ?_⟩
          rw [decide_eq_false c1, Bool.false_or]
          by_cases c3 : i2 = 0
          · rw [decide_eq_true c3, decide_eq_true (by rw [c3])]
          · rw [decide_eq_false c3, decide_eq_false (fun e => c3 (by injection e))]
      · rintro H3 ⟨s3, h3⟩
        have lz : (c.zip ns).length = c.length := by rw [List.length_zip]; omega
        rw [List.take_of_length_le (by rw [List.length_map, List.length_map, List.length_map, List.length_zip]; exact Nat.le_refl _)] at h3
        refine ⟨D, (c.zip ns).map (fun p => decide (p.1 = 1) || decide (p.2 = 0)), rfl, SqL.of (by rw [h3, List.map_map]; rfl), ?_⟩
        have e : termB c (some [(.ref pa, some (ns.map V.int)), (sh, r2)]) = ((c.zip ns).map fun p => decide (p.1 = 1) || decide (p.2 = 0)).all id := by
          rw [eq0, hrow, hsh]
          show offB c (ns.map V.int) = _
          show (c.zip (ns.map V.int)).all _ = _
          rw [List.zip_map_right, List.all_map, List.all_map]
          rfl
        rw [e] at q
        exact q H3 ((s1.trans s2).trans s3)
    · rw [show (!decide (V.int ((ys.map Prod.fst).length : Nat) = V.int 2)) = true from by rw [decide_eq_false (fun e => c2 (by rw [List.length_map] at e; injection e with e; omega))]; rfl]
      have e : termB c (some ys) = false := by
        match ys, c2 with
        | [], _ => rfl
        | [_], _ => rfl
        | [_, _], h => exact absurd rfl h
        | _ :: _ :: _ :: _, _ => rfl
      rw [e] at q
      exact iteT (q H1 s1)
theorem ch_row {c : List Int} (h : ∀ s ∈ c, s = 0 ∨ s = 1) : rowB (some (c.map V.int)) c.length (.int 1) = true := by
  show (decide ((c.map V.int).length = c.length) && (c.map V.int).all fun x => withinV x (.int 0) (.int 1)) = true
  rw [decide_eq_true (List.length_map _), Bool.true_and, List.all_map]
  refine List.all_eq_true.mpr fun x hx => ?_
  rcases h x hx with rfl | rfl <;> rfl
theorem ok_poly (F : Fun K "is_polynomial" "is_polynomial" sPoly f fd) (T : Bn mg) (D_check_many : Df K mg "check_many" sCM f1 fd1 ["many"]) (G_check_many : FnOk P w K mg base CX0 3 f1 fd1 ["many"] spCM) (D_is_row_within : Df K mg "is_row_within" sRW f2 fd2 ["value", "many", "most"]) (G_is_row_within : FnOk P w K mg base CX0 3 f2 fd2 ["value", "many", "most"] (spRow K))
    (D_is_term : Df K mg "is_term" sTerm f3 fd3 ["choice", "value"]) (G_is_term : FnOk P w K mg base CX0 4 f3 fd3 ["choice", "value"] (spTerm K)) : FnOk P w K mg base CX0 5 f fd ["many", "choice", "value"] (spPoly K) := by
  refine F.ok scPoly (fun vs H Q E h => ?_) (fun cdv A outer s H vs Q E hr h => ?_)
  · obtain ⟨u, v, c, p, rfl, _⟩ := h
    rfl
  obtain ⟨u, v, c, p, rfl, hu, ⟨hc, hc3⟩, hv, q⟩ := h
  obtain ⟨n, hn, hb⟩ := hv.1.ty
  refine ⟨_, (pss_cons (ps_expr (pe_cd D_check_many G_check_many hr (by decide) (pa_cons (pv 0) pa_nil)))
      (pss_cons (ps_if (pt_not (pt_val (pe_cd D_is_row_within G_is_row_within hr (by decide) (pa_cons (pv 1) (pa_cons (pv 0) (pa_cons pe_int pa_nil)))))) (pss_one ps_never) pss_nil)
      (pss_cons (ps_if (PW.pt (pw_or (pt_not (pt_val (pe_callB call_isiT (by rfl) T.b_isinstance (by decide +kernel) (pa_cons (pv 2) (pa_cons (pe_tup (pa_cons (pe_bltn (v := .ty "list") (u := .type "list") (by rfl) T.b_list (by decide +kernel) rfl) (pa_cons (pe_bltn (v := .ty "tuple") (u := .type "tuple") (by rfl) T.b_tuple (by decide +kernel) rfl) pa_nil))) pa_nil))))) (pw_or1 (pt_not (pt_val (pe_callB (cr_all rfl) (by rfl) T.b_all (by decide +kernel) (pa_cons (pe_lc (own := [("term", 3)]) (g := (gName 3)) (by rfl) scPoly.nd (pi_seq (pv 2)) (blkOk_by (own := [("term", 3)]) (N := ["many", "choice", "value", "term", "powers", "one", "other"]) (sc := defScope sPoly) (by decide +kernel)) (fun _ _ _ _ _ => (pg_name (i := 3) scPoly.nd rfl (.inl rfl))) (fun _ _ _ _ _ => pts_nil) (fun _ _ _ _ _ => (pe_cd D_is_term G_is_term hr (by decide) (pa_cons (pv 1) (pa_cons (pv 3) pa_nil))))) pa_nil))))))) (pss_one (ps_ret pe_bl)) pss_nil)
      (pss_cons (ps_setLc (i := 4) (own := [("term", 3)]) (g := (gName 3)) rfl scPoly.nd rfl rfl (sw_true rfl rfl rfl (by decide +kernel)) (pi_seq (pv 2)) (blkOk_by (own := [("term", 3)]) (N := ["many", "choice", "value", "term", "powers", "one", "other"]) (sc := defScope sPoly) (by decide +kernel)) (fun _ _ _ _ _ => (pg_name (i := 3) scPoly.nd rfl (.inl rfl))) (fun _ _ _ _ _ => pts_nil) (fun _ _ _ _ _ => (pe_callTy (show CallR _ (.type "tuple") (rTupX K) from call_tupX) (by rfl) T.b_tuple (by decide +kernel) (pa_cons (pe_ix (show IxR _ (rIx K) from ix_seq) (pv 3) pe_int (fun _ _ => rfl)) pa_nil))))
      (pss_one (ps_ret (pe_callB (cr_all rfl) (by rfl) T.b_all (by decide +kernel) (pa_cons (pe_lc (own := [("one", 5), ("other", 6)]) (g := (gTup K 2 (gCons (gName 5) (gCons (gName 6) gNil)))) (by rfl) scPoly.nd (pi_zip (by rfl) T.b_zip (pa_cons (pv 4) (pa_cons (pe_slice sl_list (pv 4) (po_some pe_int) po_none) pa_nil))) (blkOk_by (own := [("one", 5), ("other", 6)]) (N := ["many", "choice", "value", "term", "powers", "one", "other"]) (sc := defScope sPoly) (by decide +kernel)) (fun _ _ _ _ _ => (pg_tup (by rfl) (pgs_cons (pg_name (i := 5) scPoly.nd rfl (.inl rfl)) (pgs_cons (pg_name (i := 6) scPoly.nd rfl (.inl rfl)) pgs_nil)))) (fun _ _ _ _ _ => pts_nil) (fun _ _ _ _ _ => (pe_cmpR (show OpR _ (compareOp .Lt) (rLtT K) from op_ltT hr.units0) (pv 5) (pv 6) (nomark _)))) pa_nil)))))))), ?_⟩
  have hrow : RowV K H u (some (c.map V.int)) := by
    obtain ⟨b, rfl, hk⟩ := hu
    refine ⟨⟨b, rfl, hk, by rw [List.length_map]; omega⟩, fun xs e x hx => ?_⟩
    cases e
    obtain ⟨i, _, rfl⟩ := List.mem_map.mp hx
    exact ⟨_, HasTy.int i⟩
  refine ⟨_, rfl, c.length, rfl, hc3, ?_⟩
  refine ⟨_, rfl, _, rfl, u, .int 1, c.length, some (c.map V.int), rfl, hrow, .inr ⟨1, rfl⟩, fun H1 s1 => ?_⟩
  rw [ch_row hc]
  refine ⟨_, rfl, iteF ?_⟩
  refine ⟨_, rfl, (by show 2 ≤ sizeLine; decide), fun tp htp => ?_⟩
  have s2 := s1.trans (new_same (o := .tup [.ty "list", .ty "tuple"]) htp)
  refine ⟨v, tp, _, _, [.type "list", .type "tuple"], _, rfl, upd_same, .cons (.ty _) (.cons (.ty _) .nil), tyx_same hn.1 s2, kit_lt hn.2, _, rfl, ?_⟩
  rw [hb]
  have hv2 := hv.same s2
  have hu2 := hu.same s2
  generalize L2.upd H1 tp (.tup [.ty "list", .ty "tuple"]) = H2 at s2 hv2 hu2 ⊢
  cases p with
  | none => exact iteT (q H2 s2)
  | some ys =>
    obtain ⟨⟨a, rfl, hk, hl⟩, hx⟩ := hv2
    have hk : H2 a = some (.lst (ys.map Prod.fst)) ∨ H2 a = some (.tup (ys.map Prod.fst)) := hk
    have hl : (ys.map Prod.fst).length ≤ 900 := hl
    rw [List.length_map] at hl
    refine iteF ⟨_, rfl, a, ys.map Prod.fst, rfl, hk.imp SqL.of SqT.of, fun J G wk hGG D hD => ?_⟩
    refine lc_it wk (fun i H3 => Same H2 H3 ∧ H3 D = some (.lst ((ys.map fun y => V.bl (termB c y.2)).take i))) ?_ (fun i G2 _ h => hGG G2 fun o ho => h.1 _ _ ho) ?_ ?_
    · exact ⟨new_same hD, by rw [upd_same, List.take_zero]⟩
    · rintro i x _ H3 hi' ⟨s3, h3⟩ ⟨rfl, hxi⟩
      have hxi : (ys.map Prod.fst)[i]? = some x := hxi
      rw [List.getElem?_map] at hxi
      obtain ⟨y, hy, rfl⟩ := Option.map_eq_some_iff.mp hxi
      have ty := hx ys rfl y (List.mem_of_getElem? hy)
      refine ⟨rfl, _, rfl, _, rfl, u, y.1, c, y.2, rfl, hu2.same s3, ⟨hc, hc3⟩, ty.same s3, fun H4 s4 => ⟨_, s4 _ _ h3, ?_, ?_⟩⟩
      · rw [List.length_take, List.length_map]
        exact small1000 (by omega)
      · exact ⟨same_put (s3.trans s4) hD, by rw [upd_same, take_snoc (x := V.bl (termB c y.2)) (by rw [List.getElem?_map, hy]; rfl)]⟩
    · rintro H3 ⟨s3, h3⟩
      rw [List.take_of_length_le (by rw [List.length_map, List.length_map]; exact Nat.le_refl _)] at h3
      refine ⟨D, ys.map fun y => termB c y.2, rfl, SqL.of (by rw [h3, List.map_map]; rfl), ?_⟩
      have eP : polyB c (some ys) = ((ys.all fun y => termB c y.2) && ascB (ys.map fun y => powT y.2)) := rfl
      rw [List.all_map, show (ys.all (id ∘ fun y => termB c y.2)) = ys.all fun y => termB c y.2 from rfl]
      cases ha : ys.all fun y => termB c y.2 with
      | false =>
        rw [eP, ha] at q
        exact ⟨_, rfl, iteT (q H3 (s2.trans s3))⟩
      | true =>
      refine ⟨_, rfl, iteF ?_⟩
      have hk3 := hk.imp (s3 _ _) (s3 _ _)
      have hall := List.all_eq_true.mp ha
      have s23 := s2.trans s3
      refine ⟨_, rfl, a, ys.map Prod.fst, rfl, hk3.imp SqL.of SqT.of, fun J G wk hGG D2 hD2 => ?_⟩
      refine lc_it wk (fun i H4 => Same H3 H4 ∧ ∃ ds, H4 D2 = some (.lst ds) ∧ ds.length = i ∧ Paired (TupS K H4) ds ((ys.map fun y => powT y.2).take i)) ?_ (fun i G2 _ h => hGG G2 fun o ho => h.1 _ _ ho) ?_ ?_
      · exact ⟨new_same hD2, [], upd_same, rfl, .nil⟩
      · rintro i x _ H4 hi' ⟨s4, ds, h4, lds, pds⟩ ⟨rfl, hxi⟩
        have hxi : (ys.map Prod.fst)[i]? = some x := hxi
        rw [List.getElem?_map] at hxi
        obtain ⟨y, hy, rfl⟩ := Option.map_eq_some_iff.mp hxi
        have ty := ((hx ys rfl y (List.mem_of_getElem? hy)).same s3).same s4
        obtain ⟨p, sh, ns, j, rq, et, _, _, ep⟩ := term_two (hall y (List.mem_of_getElem? hy))
        have ty1 := ty.1
        have ty2 := ty.2
        rw [et] at ty1 ty2
        obtain ⟨b, hyb, hbk, _⟩ := ty1
        obtain ⟨⟨bp, rfl, hpk, _⟩, _⟩ := ty2 _ rfl (p, some (ns.map V.int)) List.mem_cons_self
        have hbk : H4 b = some (.lst [.ref bp, sh]) ∨ H4 b = some (.tup [.ref bp, sh]) := hbk
        refine ⟨rfl, _, rfl, ?_⟩
        have hI : i < ys.length := lt_get hy
        have fin : ∃ (a' : Addr) (xs : List V), [V.ref bp] = [V.ref a'] ∧ SqX K H4 a' xs ∧ ∀ (p' : Addr) (H5 : Hp), Same H4 H5 → SqT K H5 p' xs → ∃ acc, H5 D2 = some (.lst acc) ∧ acc.length < sizeLine ∧ Same H3 (L2.upd H5 D2 (.lst (acc ++ [.ref p']))) ∧ ∃ ds, L2.upd H5 D2 (.lst (acc ++ [.ref p'])) D2 = some (.lst ds) ∧ ds.length = i + 1 ∧ Paired (TupS K (L2.upd H5 D2 (.lst (acc ++ [.ref p'])))) ds ((ys.map fun y => powT y.2).take (i + 1)) := by
          refine ⟨bp, ns.map V.int, rfl, hpk.imp SqL.of SqT.of, fun p' H5 s5 hp' => ⟨ds, s5 _ _ h4, small1000 (by omega), same_put (s4.trans s5) hD2, ds ++ [.ref p'], upd_same, by rw [List.length_append, lds]; rfl, ?_⟩⟩
          rw [take_snoc (x := ns) (by rw [List.getElem?_map, hy]; exact congrArg some ep)]
          exact tupsS_push (s5 _ _ h4) (paired_imp (fun _ _ r => r.same s5) pds) ⟨p', rfl, hp'⟩
        rcases hbk with h | h
        · exact .inl ⟨b, _, 0, _, hyb, rfl, SqL.of h, rfl, fin⟩
        · exact .inr (.inl ⟨b, _, 0, _, hyb, rfl, SqT.of h, rfl, fin⟩)
      · rintro H4 ⟨s4, ds, h4, lds, pds⟩
        rw [List.take_of_length_le (by rw [List.length_map, List.length_map]; exact Nat.le_refl _)] at pds
        generalize hLp : ys.map (fun y => powT y.2) = Lp at pds
        have lds : ds.length = ys.length := by rw [lds, List.length_map]
        have ld : ds.length = Lp.length := TG.paired_len pds
        have cut : cutV ds (some 1) none = ds.drop 1 := by
          cases ds with
          | nil => rfl
          | cons a l => exact cut_from (a :: l) 1 (Nat.succ_le_succ (Nat.zero_le _))
        refine ⟨_, rfl, _, rfl, 1, rfl, D2, ds, rfl, SqL.of h4, fun L hL => ?_⟩
        rw [cut]
        have s5 := new_same (o := .lst (ds.drop 1)) hL
        have h5 := s5 _ _ h4
        have hL5 : (L2.upd H4 L (.lst (ds.drop 1))) L = some (.lst (ds.drop 1)) := upd_same
        have pds5 := paired_imp (fun _ _ r => TupS.same r s5) pds
        have s15 := (s23.trans s4).trans s5
        generalize (L2.upd H4 L (.lst (ds.drop 1))) = H5 at s5 h5 hL5 pds5 s15 ⊢
        refine ⟨D2, L, ds, ds.drop 1, rfl, SqL.of h5, SqL.of hL5, fun D3 hD3 => ?_⟩
        have lzip : (Lp.zip (Lp.drop 1)).length = ds.length - 1 := by rw [List.length_zip, List.length_drop]; omega
        refine lc_it (walk_zip (K := K) (a := D2) (b := L) (xs := ds) (ys := ds.drop 1) (n := ds.length - 1) (by rw [List.length_drop]; omega)) (fun i H6 => Same H5 H6 ∧ H6 D3 = some (.lst (((Lp.zip (Lp.drop 1)).map fun p => V.bl (HT.lexLt p.1 p.2)).take i))) ?_ (fun i G2 _ h => ⟨SqL.of (h.1 _ _ h5), SqL.of (h.1 _ _ hL5)⟩) ?_ ?_
        · exact ⟨new_same hD3, by rw [upd_same, List.take_zero]⟩
        · rintro i x G3 G4 hi' ⟨s6, h6⟩ ⟨t0, x1, y1, rfl, ht0, rfl, e1, e2⟩
          obtain ⟨c1, g1, q1⟩ := TG.paired_get pds5 e1
          have e2' : ds[1 + i]? = some y1 := by rw [← List.getElem?_drop]; exact e2
          obtain ⟨c2, g2, q2⟩ := TG.paired_get pds5 e2'
          have gz : (Lp.zip (Lp.drop 1))[i]? = some (c1, c2) := by rw [List.getElem?_zip_eq_some]; exact ⟨g1, by rw [List.getElem?_drop]; exact g2⟩
          have s7 := new_same (o := .tup [x1, y1]) ht0
          obtain ⟨a1, rfl, u1⟩ := (q1.same s6).same s7
          obtain ⟨a2, rfl, u2⟩ := (q2.same s6).same s7
          refine ⟨t0, _, rfl, SqT.of upd_same, rfl, _, _, rfl, _, _, rfl, rfl, rfl, _, rfl, _, rfl, a1, a2, c1, c2, rfl, rfl, u1, u2, _, s7 _ _ h6, ?_, same_put (s6.trans s7) hD3, ?_⟩
          · rw [List.length_take, List.length_map]
            exact small1000 (by omega)
          · rw [upd_same, take_snoc (x := V.bl (HT.lexLt c1 c2)) (by rw [List.getElem?_map, gz]; rfl)]
        · rintro H6 ⟨s6, h6⟩
          rw [List.take_of_length_le (by rw [List.length_map, lzip]; exact Nat.le_refl _)] at h6
          refine ⟨D3, (Lp.zip (Lp.drop 1)).map fun p => HT.lexLt p.1 p.2, rfl, SqL.of (by rw [h6, List.map_map]; rfl), ?_⟩
          have e : polyB c (some ys) = ((Lp.zip (Lp.drop 1)).map fun p => HT.lexLt p.1 p.2).all id := by
            rw [eP, ha, hLp, asc_zip]
            rfl
          rw [e] at q
          exact q H6 (s15.trans s6)
end
end TF52
set_option maxHeartbeats 400000
/-! an error with one field raised: part -/
namespace TG
open PySem PySem.Spec L2
open PyProof.Rows hiding St
/-- the __init__ of an error with one field -/
def spX1 (K : PySem.W.Frag) (g1 : Str) : Sp := fun vs H Q _ => ∃ (a C : Addr) (v1 : V), vs = [.ref a, v1] ∧ OexC K C ∧ PySem.W.findIn K (.ref C) g1 = some none ∧ H a = some (exo a C none) ∧
  ∀ (dx : Addr) (H' : Hp), H dx = none → dx ≠ a → H' a = some (exo a C (some dx)) → H' dx = some (exd dx [(g1, v1)]) → (∀ b o, b ≠ a → H b = some o → H' b = some o) → Q .non H'
structure Er1 (P : Program) (w : World) (K : PySem.W.Frag) (mg : Str → Option Value) (base : Heap) (x : Str) (C f : Addr) (fd : FuncData) (g1 : Str) : Prop where
  o : OexC K C
  i : PySem.W.findIn K (.ref C) "__init__" = some (some (.ref f))
  t : PySem.W.typeIn K (.ref f) = some (.type "function")
  G : FnOk P w K mg base CX0 1 f fd ["self", g1] (spX1 K g1)
  n1 : PySem.W.findIn K (.ref C) g1 = some none
  m : mg x = some (.ref C)
  b : Binds K fd ["self", g1] []
def OutP (C : Addr) (H : Hp) (E : XK) (u : Str) : Prop := ∀ (d : Addr) (H' : Hp), Same H H' → H d = none → H' d = some (.xd [("part", .str u)]) → E (.ref C) (some d) H'
theorem OutP.same {C : Addr} {H H' : Hp} {E : XK} {u : Str} (h : OutP C H E u) (s : Same H H') : OutP C H' E u := fun d G g1 g2 g3 => h d G (s.trans g1) (s.free g2) g3
theorem mkO_end1 {C a dx : Addr} {H1 H2 : Hp} {g1 : Str} {v1 : V} (ha : H1 a = none) (hd : upd H1 a (exo a C none) dx = none) (hne : dx ≠ a) (k : ∀ b o, b ≠ a → upd H1 a (exo a C none) b = some o → H2 b = some o) :
    H1 dx = none ∧ Same H1 (upd (del H2 a) dx (.xd [(g1, v1)])) := by
  rw [upd_ne hne] at hd
  refine ⟨hd, fun b o e => ?_⟩
  have hb : b ≠ a := ne_of_none e ha
  rw [upd_ne (ne_of_none e hd), del_ne hb]
  exact k b o hb (by rw [upd_ne hb]; exact e)
/-- what is a list of at most three numbers -/
def numsB (r : Rw) : Bool := match r with
  | none => false
  | some xs => xs.all numV && decide (xs.length ≤ 3)
def oneI (v : V) : Int := if vlV v = 0 then 0 else 1
def spCMX (K : PySem.W.Frag) (C : Addr) : Sp := fun vs H Q E => ∃ v, vs = [v] ∧ AnyV K H v ∧ if withinV v (.int 0) (.int 3) = true then Q .non H else OutP C H E "many"
def spCNX (K : PySem.W.Frag) (C : Addr) : Sp := fun vs H Q E => ∃ (v : V) (r : Rw), vs = [v] ∧ RowV K H v r ∧ if numsB r = true then ∀ H', Same H H' → Q .non H' else OutP C H E "numbers"
def spChO (K : PySem.W.Frag) (C : Addr) : Sp := fun vs H Q E => ∃ (v : V) (r : Rw), vs = [v] ∧ RowV K H v r ∧
  if numsB r = true then ∀ (v' : V) (H' : Hp), Same H H' → TupAt H' v' ((r.getD []).map oneI) → Q v' H' else OutP C H E "numbers"
def spChX (K : PySem.W.Frag) (C : Addr) : Sp := fun vs H Q E => ∃ v, vs = [v] ∧ AnyV K H v ∧ withinV v (.int 0) (.int 3) = false ∧ OutP C H E "many"
theorem nums_ints {r : Rw} (h : numsB r = true) : ∃ ns : List Int, r = some (ns.map V.int) ∧ ns.length ≤ 3 ∧ ∀ n ∈ ns, 0 ≤ n := by
  cases r with
  | none => cases h
  | some xs =>
    obtain ⟨h1, h2⟩ := Bool.and_eq_true_iff.mp (show (xs.all numV && decide (xs.length ≤ 3)) = true from h)
    have h1 := List.all_eq_true.mp h1
    refine ⟨xs.map vlV, congrArg some ?_, by rw [List.length_map]; exact of_decide_eq_true h2, fun n hn => ?_⟩
    · rw [List.map_map]
      exact (List.map_id _).symm.trans (List.map_congr_left fun x hx => within_int (h1 x hx))
    · obtain ⟨x, hx, rfl⟩ := List.mem_map.mp hn
      have h3 := h1 x hx
      rw [within_int h3] at h3
      have h4 : (decide ((0 : Int) ≤ vlV x) && true) = true := h3
      rw [Bool.and_true] at h4
      exact of_decide_eq_true h4
end TG
namespace TF52
open PySem PySem.Spec L2 TG TA
open PyProof.Rows hiding St
/-! ### what is no number of numbers, no list of numbers: refused -/
abbrev sBNI : Stmt := inClass (top 11) 0
abbrev sCN : Stmt := top 20
abbrev sChO : Stmt := top 29
theorem scBNI : FnScope ["self", "part"] ["self", "part"] (defScope sBNI) := ⟨rfl, rfl, rfl, by decide +kernel, rfl, by decide +kernel, by decide +kernel⟩
theorem scCN : FnScope ["numbers"] ["numbers"] (defScope sCN) := ⟨rfl, rfl, rfl, by decide +kernel, rfl, by decide +kernel, by decide +kernel⟩
theorem scChO : FnScope ["numbers", "number"] ["numbers"] (defScope sChO) := ⟨rfl, rfl, rfl, by decide +kernel, rfl, by decide +kernel, by decide +kernel⟩
section
variable {P : Program} {w : World} {K : PySem.W.Frag} {mg : Str → Option Value} {base : Heap} {f f1 f2 f3 : Addr} {fd fd1 fd2 fd3 : FuncData}
theorem ok_bni (F : Fun K "__init__" "BadNumber.__init__" sBNI f fd) : FnOk P w K mg base CX0 1 f fd ["self", "part"] (spX1 K "part") := by
  refine F.ok scBNI (fun vs H Q E h => ?_) (fun cdv A outer s H vs Q E hr h => ?_)
  · obtain ⟨a, C, v, rfl, _⟩ := h
    rfl
  obtain ⟨a, C, v, rfl, T, hf, ha, q⟩ := h
  refine ⟨_, (pss_one (ps_ost (pv 0) (pv 1))), ?_⟩
  refine ⟨_, rfl, _, rfl, a, C, rfl, T, hf, .inl ⟨ha, fun dx hd hne => ?_⟩⟩
  refine q dx _ hd hne upd_same (by rw [upd_ne hne, upd_same]) fun b o hb e => ?_
  rw [upd_ne hb, upd_ne (ne_of_none e hd)]
  exact e
theorem out1 {C fI : Addr} {fdI : FuncData} (R : Er1 P w K mg base "BadNumber" C fI fdI "part") {H : Hp} {E : XK} (u : Str) (σ : L2.St) (H1 : Hp) (s1 : Same H H1) (x : OutP C H E u) : tMkO C (spX1 K "part") [] (tCons (tC (.str u)) tNil) σ H1 fun cls d H' => E cls d H' := by
  refine ⟨by show 1 ≤ 1000; decide, fun a ha => ⟨a, C, _, rfl, R.o, R.n1, upd_same, fun dx H2 hd hne h1 h2 k => ?_⟩⟩
  obtain ⟨e1, e2⟩ := mkO_end1 (g1 := "part") (v1 := .str u) ha hd hne k
  exact ⟨rfl, dx, _, h1, h2, e1, x dx _ (s1.trans e2) (s1.free e1) upd_same⟩
theorem ok_cmx {C fI : Addr} {fdI : FuncData} (F : Fun K "check_many" "check_many" sCM f fd) (T : Bn mg) (M3 : ∃ t, mg "MOST_NUMBERS" = some (.int 3 t)) (R : Er1 P w K mg base "BadNumber" C fI fdI "part") (D_is_within : Df K mg "is_within" sWithin f1 fd1 ["value", "least", "most"]) (G_is_within : FnOk P w K mg base CX0 2 f1 fd1 ["value", "least", "most"] (spWithin K)) : FnOk P w K mg base (L2.CX P w) 3 f fd ["many"] (spCMX K C) := by
  refine F.okX scCM (fun vs H Q E h => ?_) (fun cdv A outer s H vs Q E hr h => ?_)
  · obtain ⟨v, rfl, _⟩ := h
    rfl
  obtain ⟨v, rfl, ⟨n, hn⟩, q⟩ := h
  obtain ⟨t3, gM3⟩ := M3
  refine ⟨_, (pss_one (ps_if (pt_not (pt_val (pe_cd D_is_within G_is_within hr (by decide) (pa_cons (pv 0) (pa_cons pe_int (pa_cons (pe_glob (v := .int 3) rfl gM3 ⟨_, rfl⟩) pa_nil)))))) (pss_one (ps_raise rfl (takes_of rfl rfl rfl rfl) (pmk_oex R.o R.i R.t R.G (hr.mono (by decide)) R.b .nil pass0 rfl R.m (pa_cons pe_str pa_nil)))) pss_nil)), ?_⟩
  refine ⟨_, rfl, _, _, _, _, rfl, hn, .inr ⟨_, rfl⟩, .inr ⟨_, rfl⟩, _, rfl, ?_⟩
  cases hw : withinV v (.int 0) (.int 3) with
  | true =>
    rw [hw, if_pos rfl] at q
    exact iteF q
  | false =>
    rw [hw, if_neg Bool.false_ne_true] at q
    exact iteT (out1 R _ _ _ (fun _ _ h => h) q)
theorem ok_cnx {C fI : Addr} {fdI : FuncData} (F : Fun K "check_numbers" "check_numbers" sCN f fd) (T : Bn mg) (M3 : ∃ t, mg "MOST_NUMBERS" = some (.int 3 t)) (R : Er1 P w K mg base "BadNumber" C fI fdI "part") (D_are_numbers : Df K mg "are_numbers" sNums f1 fd1 ["value"]) (G_are_numbers : FnOk P w K mg base CX0 3 f1 fd1 ["value"] (spNums K)) : FnOk P w K mg base (L2.CX P w) 4 f fd ["numbers"] (spCNX K C) := by
  refine F.okX scCN (fun vs H Q E h => ?_) (fun cdv A outer s H vs Q E hr h => ?_)
  · obtain ⟨v, r, rfl, _⟩ := h
    rfl
  obtain ⟨v, r, rfl, hv, q⟩ := h
  obtain ⟨t3, gM3⟩ := M3
  refine ⟨_, (pss_one (ps_if (PW.pt (pw_or (pt_not (pt_val (pe_cd D_are_numbers G_are_numbers hr (by decide) (pa_cons (pv 0) pa_nil)))) (pw_or1 (pt_cmpR op_gt (pe_callB call_len_seq (by rfl) T.b_len (by decide +kernel) (pa_cons (pv 0) pa_nil)) (pe_glob (v := .int 3) rfl gM3 ⟨_, rfl⟩) (nomark _))))) (pss_one (ps_raise rfl (takes_of rfl rfl rfl rfl) (pmk_oex R.o R.i R.t R.G (hr.mono (by decide)) R.b .nil pass0 rfl R.m (pa_cons pe_str pa_nil)))) pss_nil)), ?_⟩
  cases r with
  | none =>
    obtain ⟨n, hn, hb⟩ := hv.1
    obtain ⟨n1, n2⟩ := Bool.or_eq_false_iff.mp hb
    rw [show numsB none = false from rfl, if_neg Bool.false_ne_true] at q
    exact ⟨_, rfl, v, n, rfl, hn, .inl ⟨by simpa using n1, by simpa using n2, fun H1 s1 => ⟨_, rfl, iteT (out1 R _ _ _ s1 q)⟩⟩⟩
  | some xs =>
    obtain ⟨⟨a, rfl, hk, hl⟩, hx⟩ := hv
    have hl : xs.length ≤ 900 := hl
    have two : ∃ n, HasTy K H (.ref a) n ∧ ((n = "list" ∧ H a = some (.lst xs)) ∨ (n = "tuple" ∧ H a = some (.tup xs))) := by
      rcases hk with h | h
      · exact ⟨_, HasTy.lst h, .inl ⟨rfl, h⟩⟩
      · exact ⟨_, HasTy.tup h, .inr ⟨rfl, h⟩⟩
    obtain ⟨n, hn, hor⟩ := two
    have e0 : numsB (some xs) = (xs.all numV && decide (xs.length ≤ 3)) := rfl
    refine ⟨_, rfl, .ref a, n, rfl, hn, .inr ⟨a, xs, rfl, hor, fun x h => hx xs rfl x h, by omega, fun H1 s1 => ?_⟩⟩
    cases ha : xs.all numV with
    | false =>
      rw [e0, ha, Bool.false_and, if_neg Bool.false_ne_true] at q
      exact ⟨_, rfl, iteT (out1 R _ _ _ s1 q)⟩
    | true =>
      refine ⟨_, rfl, iteF ⟨_, rfl, a, xs, rfl, (hk.imp (s1 _ _) (s1 _ _)).imp SqL.of SqT.of, _, _, rfl, rfl, _, rfl, ?_⟩⟩
      by_cases c : xs.length ≤ 3
      · rw [e0, ha, decide_eq_true c, Bool.true_and, if_pos rfl] at q
        rw [show decide ((3 : Int) < (xs.length : Int)) = false from decide_eq_false (by omega)]
        exact iteF (q H1 s1)
      · rw [e0, ha, decide_eq_false c, Bool.and_false, if_neg Bool.false_ne_true] at q
        rw [show decide ((3 : Int) < (xs.length : Int)) = true from decide_eq_true (by omega)]
        exact iteT (out1 R _ _ _ s1 q)
theorem ok_cho {C fI : Addr} {fdI : FuncData} (F : Fun K "choice_of" "choice_of" sChO f fd) (T : Bn mg) (D_check_numbers : Df K mg "check_numbers" sCN f1 fd1 ["numbers"]) (G_check_numbers : FnOk P w K mg base (L2.CX P w) 4 f1 fd1 ["numbers"] (spCNX K C)) : FnOk P w K mg base (L2.CX P w) 5 f fd ["numbers"] (spChO K C) := by
  refine F.okX scChO (fun vs H Q E h => ?_) (fun cdv A outer s H vs Q E hr h => ?_)
  · obtain ⟨v, r, rfl, _⟩ := h
    rfl
  obtain ⟨v, r, rfl, hv, q⟩ := h
  refine ⟨_, (pss_cons (ps_expr (pe_callS G_check_numbers (hr.mono (by decide)) rfl D_check_numbers.m D_check_numbers.F.kp D_check_numbers.b (fun σ => passAt (W := fun cls d _ H => E cls d H) (takes_of rfl rfl rfl rfl) σ) (pa_cons (pv 0) pa_nil)))
      (pss_one (ps_ret (pe_callTy call_tuple_of (by rfl) T.b_tuple (by decide +kernel) (pa_cons (pe_lc (own := [("number", 1)]) (g := (gName 1)) (by rfl) scChO.nd (pi_seq (pv 0)) (blkOk_by (own := [("number", 1)]) (N := ["numbers", "number"]) (sc := defScope sChO) (by decide +kernel)) (fun _ _ _ _ _ => (pg_name (i := 1) scChO.nd rfl (.inl rfl))) (fun _ _ _ _ _ => pts_nil) (fun _ _ _ _ _ => (pe_callB (call_min2 rfl) (by rfl) T.b_min (by decide +kernel) (pa_cons (pv 1) (pa_cons pe_int pa_nil))))) pa_nil))))), ?_⟩
  refine ⟨_, rfl, v, r, rfl, hv, ?_⟩
  cases hn : numsB r with
  | false =>
    rw [hn, if_neg Bool.false_ne_true] at q
    rw [if_neg Bool.false_ne_true]
    exact q
  | true =>
    rw [hn, if_pos rfl] at q
    rw [if_pos rfl]
    intro H1 s1
    obtain ⟨ns, rfl, hl3, h0⟩ := nums_ints hn
    obtain ⟨⟨a, rfl, hk, _⟩, _⟩ := hv
    have hk1 := hk.imp (s1 _ _) (s1 _ _)
    refine ⟨_, rfl, a, ns.map V.int, rfl, hk1.imp SqL.of SqT.of, fun J G wk hGG D hD => ?_⟩
    refine lc_it wk (fun i H2 => Same H1 H2 ∧ H2 D = some (.lst ((ns.map fun n => V.int (oneI (.int n))).take i))) ?_ (fun i G2 _ h => hGG G2 fun o ho => h.1 _ _ ho) ?_ ?_
    · exact ⟨new_same hD, by rw [upd_same, List.take_zero]⟩
    · rintro i x _ H2 hi' ⟨s2, h2⟩ ⟨rfl, hxi⟩
      have hxi : (ns.map V.int)[i]? = some x := hxi
      rw [List.getElem?_map] at hxi
      obtain ⟨n, hni, rfl⟩ := Option.map_eq_some_iff.mp hxi
      have n0 := h0 n (List.mem_of_getElem? hni)
      refine ⟨rfl, _, rfl, _, _, rfl, _, h2, ?_, ?_⟩
      · rw [List.length_take, List.length_map]
        exact small1000 (by omega)
      · refine ⟨same_put s2 hD, ?_⟩
        rw [upd_same, take_snoc (x := V.int (oneI (.int n))) (by rw [List.getElem?_map, hni]; rfl)]
        congr 5
        show (if (1 : Int) < n then 1 else n) = if n = 0 then 0 else 1
        by_cases c : n = 0
        · rw [c]; rfl
        · rw [if_neg c]
          split <;> omega
    · rintro H2 ⟨s2, h2⟩
      rw [List.take_of_length_le (by rw [List.length_map, List.length_map]; exact Nat.le_refl _)] at h2
      refine ⟨D, _, rfl, .inl ⟨SqL.of h2, fun p hp => q (.ref p) _ ((s1.trans s2).trans (same_new hp)) ⟨p, rfl, ?_⟩⟩⟩
      rw [upd_same]
      show some (HO.tup (ns.map fun n => V.int (oneI (.int n)))) = some (.tup (((ns.map V.int).map oneI).map V.int))
      rw [List.map_map, List.map_map]
      rfl
theorem ok_chx {C fI : Addr} (F : Fun K "choices" "choices" sChs f fd) (T : Bn mg) (D_check_many : Df K mg "check_many" sCM f1 fd1 ["many"]) (G_check_many : FnOk P w K mg base (L2.CX P w) 3 f1 fd1 ["many"] (spCMX K C)) : FnOk P w K mg base (L2.CX P w) 4 f fd ["many"] (spChX K C) := by
  refine F.okX scChs (fun vs H Q E h => ?_) (fun cdv A outer s H vs Q E hr h => ?_)
  · obtain ⟨v, rfl, _⟩ := h
    rfl
  obtain ⟨v, rfl, hv, hw, q⟩ := h
  refine ⟨_, (pss_cons (ps_expr (pe_callS G_check_many (hr.mono (by decide)) rfl D_check_many.m D_check_many.F.kp D_check_many.b (fun σ => passAt (W := fun cls d _ H => E cls d H) (takes_of rfl rfl rfl rfl) σ) (pa_cons (pv 0) pa_nil)))
    (pss_cons (ps_set (i := 1) scChs.nd rfl (.inl rfl) (pe_lst (pa_cons (pe_tup pa_nil) pa_nil)))
    (pss_cons (ps_for (passes_of rfl) rfl (pi_range1 (by rfl) T.b_range (pa_cons (pv 0) pa_nil)) (pg_name (i := 2) scChs.nd rfl (.inl rfl))
      (pss_one (ps_setLc2 (i := 1) (own := [("choice", 3), ("sign", 4)]) (vs1 := [4]) (g := gName 3) (g1 := gName 4) rfl scChs.nd rfl rfl (sw_true rfl rfl rfl (by decide +kernel)) (pi_list (pv 1))
        (blkOk_by (own := [("choice", 3), ("sign", 4)]) (N := ["many", "found", "_", "choice", "sign"]) (sc := defScope sChs) (by decide +kernel)) (by decide)
        (fun _ _ _ _ _ => pg_name (i := 3) scChs.nd rfl (.inl rfl)) (fun _ _ _ _ _ => pts_nil) (fun _ _ _ _ _ => show PI _ _ _ (iTup K _) from pi_tup (pe_tup (pa_cons pe_int (pa_cons pe_int pa_nil))))
        (fun _ _ _ _ _ => pg_name (i := 4) scChs.nd rfl (.inl rfl)) (fun _ _ _ _ _ => pts_nil) (fun _ _ _ _ _ => pe_op (show OpR _ _ (rCatA K) from op_catA) (pv 3) (pe_tup (pa_cons (pv 4) pa_nil))))))
    (pss_one (ps_ret (pe_callTy call_tuple_of (by rfl) T.b_tuple (by decide +kernel) (pa_cons (pv 1) pa_nil))))))), ?_⟩
  refine ⟨_, rfl, v, rfl, hv, ?_⟩
  rw [hw, if_neg Bool.false_ne_true]
  exact q
end
end TF52
/-! own rules: a comprehension that makes a dict, whatever its keys are, by a word for what a store asks -/
namespace TG
open PySem PySem.Spec L2
open PyProof.Rows hiding St
/-- J of each block's frame within X -/
abbrev InB (X : Cx) (sc : Scope) (J : Cx → Prop) : Prop := ∀ (t : Shared) (G : Hp) (c : Addr) (cs : List (Str × Addr)) (ws : List Addr), J (X.blk t G sc (compEnvC sc cs c X.env) ws)
/-- what it asks to store a key and a value in the dict at an address -/
abbrev DSt := Addr → V → V → Hp → (Hp → Prop) → Prop
def StOk (P : Program) (w : World) (st : DSt) : Prop := ∀ (Y : Cx), Y.prog = P → Y.w = w → ∀ (ps : List (Addr × Obj)) (τ : L2.St) (G : Hp) (t : Shared) (E : Value → Shared → Prop) (D : Addr) (y z : V) (u r : Value) (N : Hp → Prop),
  Inv Y ps τ G t → RelV y u → RelV z r → st D y z G N → wpAny (model P w) Y.A (dictSet D u r) (fun _ t' => ∃ G', Inv Y ps τ G' t' ∧ N G') E t
/-- one turn at item x: the target, the tests, key, value, the store -/
def DTurn (st : DSt) (g : TG) (tt : TT) (tk tv : TE) (own : List Nat) (σ : L2.St) (D : Addr) (x : V) (G : Hp) (N : Hp → Prop) : Prop :=
  g x (wipe σ own) G fun τ G1 => wipe τ own = wipe σ own ∧ tt τ G1 fun b G2 => if b = true then tk τ G2 fun y G3 => tv τ G3 fun z G4 => st D y z G4 N else N G2
/-- the whole of it -/
def tDcS (st : DSt) (wi : TI) (g : TG) (tt : TT) (tk tv : TE) (own : List Nat) : TE := fun σ H Q => wi σ H fun J H1 => ∀ D, H1 D = none → ∃ W : Nat → Nat → Hp → Prop, (∃ m, W 0 m (L2.upd H1 D (.dK []))) ∧ ∀ i m G, W i m G →
  (J.stop i G ∧ Q (.ref D) G) ∨ (J.go i G ∧ ∃ N : Hp → Prop, (∀ G', N G' → ∃ m', m' < m ∧ W (i + 1) m' G') ∧ ∀ x G', J.yld i G x G' → DTurn st g tt tk tv own σ D x G' N)
section
variable {X : Cx} {st : DSt} {kx vx tg iter : Expr} {ifs : List Expr} {sc : Scope} {own : List (Str × Nat)} {wi : TI} {g : TG} {tt : TT} {tk tv : TE}
theorem dcs_core {ps : List (Addr × Obj)} {s : Shared} {σ : L2.St} {H : Hp} {Q : VK} {p1 p2 : Pos} {use : Option (Value → Sem Unit)} {R : Value → Shared → Prop} (hc : X.calm = true) (hN : X.N.Nodup) (I : Inv X ps σ H s) (hst : StOk X.prog X.w st) (hi : PI X tg iter wi)
    (ok : BlkOk X.N X.env.scope sc own) (hg : InB X sc fun Y => PG Y tg g) (ht : InB X sc fun Y => PTs Y ifs tt) (hk : InB X sc fun Y => PE Y kx tk) (hv : InB X sc fun Y => PE Y vx tv) (hs : ∀ x, foldedSetIterable iter X.env x = pure x)
    (h : tDcS st wi g tt tk tv (own.map (·.2)) σ H Q) (hR : ∀ D C t m G, Inv X ps σ G t → Q (.ref D) G → t.heap.Ns C m → FpOk X ps G C → compPost (model X.prog X.w) X.A X.xe use R (.ref D) C (.ok .next) t) :
    wpAny (model X.prog X.w) X.A (comprehension (.DictComp kx vx [⟨tg, iter, ifs, 0⟩] sc p1) sc X.env p2 newDict false (eval iter X.env) use) R X.xe s := by
  have clo : ∀ y ∈ sc.names, y.2 = .free → ∃ c, X.env.cells.lookup y.1 = some c := by
    intro y hy e
    exact (ok.free y hy e).elim (fun k => I.ok.has _ (.inl k)) fun k => I.ok.has _ (.inr k)
  refine wpAny_comprehension_free (use := use) rfl hs (closure_ok clo) ok.kind (fun y hy e => (ok.uniq y hy).trans (congrArg some e)) ?_
  refine thn (hi.run ps s σ H _ I h) fun xv sA hA => thn hA fun itv sB ⟨it, fp, tn, J, HB, eit, IB, T, tB, fB, q⟩ => ?_
  subst eit
  refine wpAny_newObj_type (newEnv_comp ?_)
  -- the new dict at D, the frame of the block at C
  obtain ⟨D, eD⟩ : ∃ D, D = sB.heap.objs.size := ⟨_, rfl⟩
  rw [← eD]
  have D0 : HB D = none := IB.hok.fresh (Nat.le_of_eq eD.symm)
  obtain ⟨W, ⟨m0, w0⟩, turn⟩ := q D D0
  obtain ⟨sC, eC⟩ : ∃ sC : Shared, sC = { sB with heap := sB.heap.push { cls := .type "dict", data := .dict #[] } } := ⟨_, rfl⟩
  rw [← eC]
  have IC : Inv X ps σ (L2.upd HB D (.dK [])) sC := by
    subst eC eD
    exact IB.laid (t' := sB.toks) (fun b o e => Heap.get?_push_of_some _ e) (Nat.le_refl _) (dk_empty sB.heap IB.big)
  have below : ∀ b ∈ fp, b < D := fun b hb => by
    obtain ⟨o, e, _⟩ := T.obj _ _ tB b hb
    rw [eD]
    exact Heap.lt_size e
  have sizeC : sC.heap.objs.size = D + 1 := by rw [eC, eD]; exact Heap.size_push ..
  have fC : ∀ b ∈ fp, FpOk X ps (L2.upd HB D (.dK [])) b ∧ b < sC.heap.objs.size := fun b hb => by
    have lt := below b hb
    have f := fB b hb
    exact ⟨⟨(upd_ne (Nat.ne_of_lt lt)).trans f.1, f.2⟩, by rw [sizeC]; exact Nat.lt_succ_of_lt lt⟩
  have tC : tn 0 sC.heap := T.keep _ _ _ tB fun b _ o e => by rw [eC]; exact Heap.get?_push_of_some _ e
  have IE := block_start IC ok hN fC
  obtain ⟨HC, eHC⟩ : ∃ HC, HC = L2.upd HB D (.dK []) := ⟨_, rfl⟩
  rw [← eHC] at IC IE fC w0
  obtain ⟨ce, ece⟩ : ∃ ce, ce = compEnvC sc (cellsFrom (sC.heap.objs.size + 1) sc.names (cloFrom X.env.cells sc.names [])) sC.heap.objs.size X.env := ⟨_, rfl⟩
  have eL : ce.locals = sC.heap.objs.size := by rw [ece]; rfl
  have gg : PG (X.blk sC HC sc ce fp) tg g := ece ▸ hg sC HC sC.heap.objs.size _ fp
  have gt : PTs (X.blk sC HC sc ce fp) ifs tt := ece ▸ ht sC HC sC.heap.objs.size _ fp
  have gk : PE (X.blk sC HC sc ce fp) kx tk := ece ▸ hk sC HC sC.heap.objs.size _ fp
  have gv : PE (X.blk sC HC sc ce fp) vx tv := ece ▸ hv sC HC sC.heap.objs.size _ fp
  rw [← ece] at IE
  show codeAny _ _ (.compStart (.DictComp kx vx [⟨tg, iter, ifs, 0⟩] sc p1) 0 (.ref it) (.ref D) (compEnvC sc (cellsFrom (sC.heap.objs.size + 1) sc.names (cloFrom X.env.cells sc.names [])) sC.heap.objs.size X.env)) (compPost (model X.prog X.w) X.A X.xe use R (.ref D) sC.heap.objs.size) _
  rw [← ece]
  obtain ⟨sE, eE⟩ : ∃ sE : Shared, sE = { sC with heap := pushCells (sC.heap.push { cls := .type "dict", data := .dict #[] }) sc.names } := ⟨_, rfl⟩
  rw [← eE] at IE ⊢
  have tE : tn 0 sE.heap := T.keep _ _ _ tC fun b _ o e => by rw [eE]; exact pushCells_keeps _ _ _ _ (Heap.get?_push_of_some _ e)
  have nE : ∀ b ∈ fp, HC b = none := fun b hb => (fC b hb).1.1
  have inF : ∀ {τ : L2.St} {G : Hp} {t : Shared}, Inv (X.blk sC HC sc ce fp) [] τ G t → (∀ b ∈ fp, G b = none) → ∀ b ∈ fp, FpOk (X.blk sC HC sc ce fp) [] G b := by
    intro τ G t J' hn b hb
    exact ⟨hn b hb, (J'.ok.exf b hb).1, J'.ok.exfs b hb, .inl hb, fun x c e => (J'.ok.exf b hb).2 x c e, fun p hp => absurd (show p ∈ ([] : List (Addr × Obj)) ++ [] from hp) List.not_mem_nil⟩
  have loop : codeAny (model X.prog X.w) X.A (.compLoop (.DictComp kx vx [⟨tg, iter, ifs, 0⟩] sc p1) 0 (.ref it) (.ref D) ce) (compPost (model X.prog X.w) X.A X.xe use R (.ref D) sC.heap.objs.size) sE := by
    refine compLoop_anyD (fun n t => ∃ i G, Inv (X.blk sC HC sc ce fp) [] (wipe σ (own.map (·.2))) G t ∧ tn i t.heap ∧ (∀ b ∈ fp, G b = none) ∧ W i n G) ?_ m0 ⟨0, HC, IE, tE, nE, w0⟩
    rintro n t ⟨i, G, J5, t5, n5, w5⟩
    rcases turn i n G w5 with ⟨stop, fin⟩ | ⟨go, N, less, step⟩
    · refine thnF (T.done (X.blk sC HC sc ce fp) rfl rfl rfl hc i [] t _ G (fun _ _ => False) J5 (inF J5 n5) t5 stop) fun r t6 ⟨er, J6⟩ => ?_
      subst er
      have back : Inv X ps σ G t6 := IC.call' (ch := fp) J6.os J6.base J6.hok J6.bare fun b hb => by
        obtain ⟨⟨_, f1, _, f3, f4, f5⟩, _⟩ := fC b hb
        exact ⟨f3, f1, f4, f5⟩
      obtain ⟨m, hn, _⟩ := J6.loc
      have hn : t6.heap.Ns ce.locals m := hn
      have free : G ce.locals = none := J6.free
      rw [eL] at hn free
      exact hR D _ t6 m G back fin hn (IC.fpOk (Nat.le_refl _) free)
    · refine thnF (T.item (X.blk sC HC sc ce fp) rfl rfl rfl hc i [] t _ G (fun _ _ => False) J5 (inF J5 n5) t5 go) fun r t6 ⟨u, er, h6⟩ => ?_
      subst er
      refine thnF h6 fun _ t7 ⟨x, G7, J7, r7, y7, tn7, n7⟩ => ?_
      have P7 := J7.pinned (inF J7 n7) (T.obj _ _ tn7)
      refine thnF (gg.run _ t7 _ G7 x u _ P7 r7 (step x G7 y7)) fun _ t8 ⟨τ, G8, J8, wp, q8⟩ => ?_
      refine thnF (gt.run _ t8 τ G8 _ J8 q8) fun b t9 ⟨G9, J9, q9⟩ => ?_
      have next : ∀ {t' : Shared} {G' : Hp}, Inv (X.blk sC HC sc ce fp) ([] ++ pinsAt fp t7.heap) τ G' t' → N G' → ∃ m, m < n ∧ ∃ i G', Inv (X.blk sC HC sc ce fp) [] (wipe σ (own.map (·.2))) G' t' ∧ tn i t'.heap ∧ (∀ b ∈ fp, G' b = none) ∧ W i m G' := by
        intro t' G' J' hN'
        obtain ⟨m', lt, w'⟩ := less G' hN'
        have pin : ∀ b ∈ fp, ∀ o, t7.heap.get? b = some o → t'.heap.get? b = some o ∧ G' b = none := fun b hb o e => by
          obtain ⟨z1, z2, _⟩ := J'.pin (b, o) (List.mem_append_right _ (List.mem_append_right _ (mem_pinsAt hb e)))
          exact ⟨z1, z2⟩
        refine ⟨m', lt, i + 1, G', (J'.unpinned (pins := [])).weak (by rw [← wp, wipe_length]) (fun j v e => ?_), T.keep _ _ _ tn7 fun b hb o e => (pin b hb o e).1, fun b hb => ?_, w'⟩
        · rw [← wp] at e
          exact (wipe_some e).1
        · obtain ⟨o, e, _⟩ := T.obj _ _ tn7 b hb
          exact (pin b hb o e).2
      cases b with
      | false => exact next J9 q9
      | true =>
        have q9 : tk τ G9 fun y G3 => tv τ G3 fun z G4 => st D y z G4 N := q9
        refine thnF (gk.run _ t9 τ G9 _ J9 q9) fun uk t10 ⟨y, G10, J10, r10, q10⟩ => ?_
        refine thnF (gv.run _ t10 τ G10 _ J10 q10) fun uv t11 ⟨z, G11, J11, r11, q11⟩ => ?_
        exact wpAny_mono (hst (X.blk sC HC sc ce fp) rfl rfl _ τ G11 t11 (fun _ _ => False) D y z uk uv N J11 r10 r11 q11) (fun _ t12 ⟨G12, J12, hN12⟩ => next J12 hN12) fun _ _ k => k.elim
  exact codeAny_compStart_dict loop (T.self X.A 0 _ _ _ tE loop)
/-- as a value -/
theorem pe_dcS {p1 : Pos} (hst : StOk X.prog X.w st) (hc : X.calm = true) (hN : X.N.Nodup) (hi : PI X tg iter wi) (ok : BlkOk X.N X.env.scope sc own) (hg : InB X sc fun Y => PG Y tg g) (ht : InB X sc fun Y => PTs Y ifs tt) (hk : InB X sc fun Y => PE Y kx tk) (hv : InB X sc fun Y => PE Y vx tv)
    (hs : ∀ x, foldedSetIterable iter X.env x = pure x := by intro _; rfl) : PE X (.DictComp kx vx [⟨tg, iter, ifs, 0⟩] sc p1) (tDcS st wi g tt tk tv (own.map (·.2))) := by
  refine ⟨fun ps s σ H Q I h => ?_⟩
  rw [arm_eval_DictComp]
  refine dcs_core hc hN I hst hi ok hg ht hk hv hs h fun D C t m G J q hn f => ⟨m, hn, fun h2 sb => ?_⟩
  obtain ⟨f0, f1, _, f3, f4, f5⟩ := f
  exact ⟨.ref D, G, J.turned (t' := t.toks) (fun b o n e => (sb.2 b n).trans e) f0 f1 f3 f4 f5, rfl, q⟩
theorem swD {y : Str} {py p1 : Pos} {l : Nat} {env : Env} {gs : List Comprehension} (hk : env.scope.kind = .function) (hy : env.scope.names.lookup y = some .local) (hl : (py.line == p1.line) = true) (ha : (sc.names.any fun (n, k) => n == y && (k == .local || k == .cell)) = false) :
    swapsWith (.DictComp kx vx gs sc p1) (some (.Name y py)) l env = pure true := by
  have e1 : env.kindOf y = some .local := hy
  have e2 : env.blockKind = .function := by unfold Env.blockKind; rw [hk]; rfl
  unfold swapsWith
  simp only [e2, e1, ha, Expr.pos, hl]
  rfl
/-- y = {..} -/
theorem ps_setDcS {i : Nat} {y : Str} {py p1 p2 : Pos} (hst : StOk X.prog X.w st) (hc : X.calm = true) (hN : X.N.Nodup) (hy : X.N[i]? = some y) (hl : X.env.scope.names.lookup y = some .local) (hw : swapsWith (.DictComp kx vx [⟨tg, iter, ifs, 0⟩] sc p1) (some (.Name y py)) p2.line X.env = pure true)
    (hi : PI X tg iter wi) (ok : BlkOk X.N X.env.scope sc own) (hg : InB X sc fun Y => PG Y tg g) (ht : InB X sc fun Y => PTs Y ifs tt) (hk : InB X sc fun Y => PE Y kx tk) (hv : InB X sc fun Y => PE Y vx tv)
    (hs : ∀ x, foldedSetIterable iter X.env x = pure x := by intro _; rfl) : PS X (.Assign [.Name y py] (.DictComp kx vx [⟨tg, iter, ifs, 0⟩] sc p1) p2) (tAsg (tDcS st wi g tt tk tv (own.map (·.2))) (gName i)) := by
  refine ⟨fun ps s σ H D I h => ?_⟩
  rw [exec_Assign_Name_used _ _ _ _ hw]
  refine wpAny_bind (wpAny_standAt (wpAny_bind ?_))
  have h : tDcS st wi g tt tk tv (own.map (·.2)) σ H (fun x G => gName i x σ G D.nx) := h
  show wpAny _ X.A (do let _ ← comprehension (.DictComp kx vx [⟨tg, iter, ifs, 0⟩] sc p1) sc X.env (firstIterPos [⟨tg, iter, ifs, 0⟩] p1) newDict false (eval iter X.env) (some (assign (.Name y py) X.env))) _ _ s
  refine wpAny_bind (thn (dcs_core (R := fun _ t => SP X ps D .next t) hc hN I hst hi ok hg ht hk hv hs h fun L C t m G J q hn f => ?_) fun _ t hq => wpAny_pure (wpAny_pure hq))
  obtain ⟨f0, f1, _, f3, f4, f5⟩ := f
  show wpAny _ _ (assign (.Name y py) X.env (.ref L)) _ _ _
  refine wpAny_assign_Name (store_ok2 (v := V.ref L) J hN hy (.inl hl) rfl (fun t2 J2 ⟨a, sb, ha⟩ => ?_) (.inr hl))
  have away : C ≠ a := ha.elim (fun z => z ▸ f1) fun z e => f4 y a z e.symm
  exact ⟨m, hn.sameBut sb away, fun h3 sb3 => ⟨_, G, J2.turned (t' := t2.toks) (fun b o n e => (sb3.2 b n).trans e) f0 f1 f3 f4 f5, q⟩⟩
end
section
variable {J : It} {n : Nat} {Gd : Hp → Prop} {Y : Nat → Hp → V → Hp → Prop}
/-- over whatever is walked: Pv by the turn and the heap, the new dict at D within -/
theorem dc_it (wk : Walk J n Gd Y) {st : DSt} {g : TG} {tt : TT} {tk tv : TE} {own : List Nat} {σ : L2.St} {H1 : Hp} {D : Addr} {Qd : Hp → Prop} (Pv : Nat → Hp → Prop) (h0 : Pv 0 (L2.upd H1 D (.dK []))) (hG : ∀ i G, i ≤ n → Pv i G → Gd G)
    (hs : ∀ i x G G', i < n → Pv i G → Y i G x G' → DTurn st g tt tk tv own σ D x G' (Pv (i + 1))) (hd : ∀ G, Pv n G → Qd G) :
    ∃ W : Nat → Nat → Hp → Prop, (∃ m, W 0 m (L2.upd H1 D (.dK []))) ∧ ∀ i m G, W i m G →
      (J.stop i G ∧ Qd G) ∨ (J.go i G ∧ ∃ N : Hp → Prop, (∀ G', N G' → ∃ m', m' < m ∧ W (i + 1) m' G') ∧ ∀ x G', J.yld i G x G' → DTurn st g tt tk tv own σ D x G' N) := by
  refine ⟨fun i m G => m = n - i ∧ i ≤ n ∧ Pv i G, ⟨n, rfl, Nat.zero_le _, h0⟩, ?_⟩
  rintro i m G ⟨rfl, hi, p⟩
  have gd := hG i G hi p
  rcases Nat.lt_or_ge i n with lt | ge
  · exact .inr ⟨wk.goes i G lt gd, Pv (i + 1), fun G' p' => ⟨n - (i + 1), by omega, rfl, lt, p'⟩, fun x G' y => hs i x G G' lt p (wk.yields i G x G' lt gd y)⟩
  · obtain rfl : i = n := by omega
    exact .inl ⟨wk.stops G gd, hd G p⟩
end
/-! ### keys ints and texts -/
def stK : DSt := fun D y z G N => ∃ kvs k, y = kV k ∧ G D = some (.dK kvs) ∧ kvs.length < sizeLine ∧ N (L2.upd G D (.dK (putK kvs k z)))
theorem stK_ok (P : Program) (w : World) : StOk P w stK := by
  rintro Y rfl rfl ps τ G t E D y z u r N I ry rz ⟨kvs, k, rfl, hD, hl, n⟩
  exact d_dictSet (X := Y) I hD hl ry rz fun t' I' => ⟨_, I', n⟩
/-! ### keys None and texts -/
/-- the dict at D has the keys ns -/
def DN (P : Program) (w : World) (D : Addr) (ns : List (Option Str)) : HO := .ext fun h => ∃ vs, vs.length ≤ sizeLine ∧ (D == sysModules) = false ∧ vs.map (·.1) = ns.map (Option.map fun z => (Sum.inr z : Key)) ∧ h.DictOf (noneKind P w) D vs
/-- or it is still empty -/
def NAt (P : Program) (w : World) (G : Hp) (D : Addr) (ns : List (Option Str)) : Prop := G D = some (DN P w D ns) ∨ (ns = [] ∧ G D = some (.dK []))
def insN (ns : List (Option Str)) (k : Option Str) : List (Option Str) := if k ∈ ns then ns else ns ++ [k]
def optS : Option Str → V
  | none => .non
  | some z => .str z
theorem optS_is {P : Program} {w : World} {k : Option Str} {u : Value} (r : RelV (optS k) u) : (noneKind P w).is (k.map fun z => (Sum.inr z : Key)) u = true := by
  cases k with
  | none => cases (show u = Value.none from r); rfl
  | some z => obtain ⟨t, e⟩ := (show ∃ t, u = Value.str z t from r); subst e; exact keyIs_str z t
theorem keyN_inj {a b : Option Str} (e : a.map (fun z => (Sum.inr z : Key)) = b.map fun z => (Sum.inr z : Key)) : a = b := by
  cases a with
  | none => cases b with
    | none => rfl
    | some _ => cases e
  | some x => cases b with
    | none => cases e
    | some y => cases e; rfl
theorem stored_keys {κ : Type} [DecidableEq κ] (vs : List (κ × Value)) (k : κ) (v : Value) : (stored vs k v).map (·.1) = if k ∈ vs.map (·.1) then vs.map (·.1) else vs.map (·.1) ++ [k] := by
  unfold stored
  by_cases c : k ∈ vs.map (·.1)
  · have h : (vs.any fun kv => decide (kv.1 = k)) = true := by
      obtain ⟨p, hp, e⟩ := List.mem_map.mp c
      exact List.any_eq_true.mpr ⟨p, hp, decide_eq_true e⟩
    rw [if_pos c, if_pos h, List.map_map]
    refine List.map_congr_left fun p _ => ?_
    show (if p.1 = k then (p.1, v) else p).1 = p.1
    split <;> rfl
  · have h : ¬ (vs.any fun kv => decide (kv.1 = k)) = true := fun z => by
      obtain ⟨p, hp, e⟩ := List.any_eq_true.mp z
      exact c (List.mem_map.mpr ⟨p, hp, of_decide_eq_true e⟩)
    rw [if_neg c, if_neg h, List.map_append]
    rfl
/-- what stands there, as the model tells it -/
theorem nat_dict {X : Cx} {ps : List (Addr × Obj)} {σ : L2.St} {H : Hp} {s : Shared} {D : Addr} {ns : List (Option Str)} (I : Inv X ps σ H s) (h : NAt X.prog X.w H D ns) :
    ∃ vs, vs.length ≤ sizeLine ∧ (D == sysModules) = false ∧ vs.map (·.1) = ns.map (Option.map fun z => (Sum.inr z : Key)) ∧ s.heap.DictOf (noneKind X.prog X.w) D vs := by
  rcases h with h | ⟨rfl, h⟩
  · exact (show ObjOk X.prog X.w H s.heap D (DN X.prog X.w D ns) from I.hok D _ h).1
  · obtain ⟨_, hd, vs, rel, o, es, ep, ho, hx, hdt, hk, hp, hn⟩ := dk_of I.hok h
    cases rel
    have e0 : es.toList = [] := by
      generalize es.toList = l at hp
      cases hp
      rfl
    refine ⟨[], Nat.zero_le _, hd, rfl, o, es, ep, ho, hx, hdt, fun e he => ?_, ?_, List.nodup_nil⟩
    · have : e ∈ es.toList := by simpa using he
      rw [e0] at this
      exact absurd this List.not_mem_nil
    · rw [e0]
      exact .nil
theorem nat_mut {P : Program} {w : World} {H : Hp} {D : Addr} {ns : List (Option Str)} (h : NAt P w H D ns) : Mut (H D) := by
  rcases h with h | ⟨_, h⟩
  · rw [h]; exact True.intro
  · rw [h]; exact True.intro
def stN (P : Program) (w : World) : DSt := fun D y _ G N => ∃ ns k, y = optS k ∧ NAt P w G D ns ∧ ns.length < 100000 ∧ N (L2.upd G D (DN P w D (insN ns k)))
theorem stN_ok (P : Program) (w : World) : StOk P w (stN P w) := by
  rintro Y rfl rfl ps τ G t E D y z u r N I ry rz ⟨ns, k, rfl, hD, hl, n⟩
  obtain ⟨vs, hz, hd, ek, dd⟩ := nat_dict I hD
  have hv : vs.length = ns.length := by
    have := congrArg List.length ek
    rw [List.length_map, List.length_map] at this
    exact this
  refine wpAny_dictSet_pairs (hsz := hz) (optS_is ry) dd fun h' dd' sb => ⟨_, ?_, n⟩
  have keys : (stored vs (k.map fun z => (Sum.inr z : Key)) r).map (·.1) = (insN ns k).map (Option.map fun z => (Sum.inr z : Key)) := by
    rw [stored_keys, ek]
    unfold insN
    by_cases c : k ∈ ns
    · rw [if_pos c, if_pos (List.mem_map.mpr ⟨k, c, rfl⟩)]
    · rw [if_neg c, if_neg fun q => ?_, List.map_append]
      · rfl
      · obtain ⟨j, hj, e⟩ := List.mem_map.mp q
        exact c (keyN_inj e ▸ hj)
  have lz : (stored vs (k.map fun z => (Sum.inr z : Key)) r).length ≤ sizeLine := by
    have := stored_length_le vs (k.map fun z => (Sum.inr z : Key)) r
    rw [sizeLine_eq]
    omega
  have here : ∃ q, h'.get? D = some q := by
    obtain ⟨o, _, _, ho, _⟩ := dd'
    exact ⟨o, ho⟩
  exact d_write I (nat_mut hD) sb here ⟨⟨_, lz, hd, keys, dd'⟩, here, fun h1 h2 ⟨vs1, z1, z2, z3, o, es, ep, ho, rest⟩ km => ⟨vs1, z1, z2, z3, o, es, ep, km _ ho, rest⟩⟩
section
variable {X : Cx}
/-- a text not among the keys -/
def rNotN (P : Program) (w : World) : R2 := fun x y H Q => ∃ (D : Addr) (ns : List (Option Str)) (z : Str), x = .str z ∧ y = .ref D ∧ NAt P w H D ns ∧ Q (.bl (!decide (some z ∈ ns))) H
theorem op_notinN : OpR X (compareOp .NotIn) (rNotN X.prog X.w) := by
  intro ps s σ H x y v u Q I rx ry h
  obtain ⟨D, ns, z, rfl, rfl, hD, q⟩ := h
  obtain rfl : u = Value.ref D := ry
  obtain ⟨vs, hz, hd, ek, dd⟩ := nat_dict I hD
  refine wpAny_notIn_of (optS_is (k := some z) rx) hd dd.mapOf ?_
  have e : (valueAt vs ((some z : Option Str).map fun z => (Sum.inr z : Key))).isSome = decide (some z ∈ ns) := by
    unfold valueAt
    rw [Option.isSome_map, Bool.eq_iff_iff, decide_eq_true_eq, List.find?_isSome]
    constructor
    · rintro ⟨p, hp, e⟩
      have h1 : p.1 ∈ vs.map (·.1) := List.mem_map.mpr ⟨p, hp, rfl⟩
      rw [ek] at h1
      obtain ⟨j, hj, e2⟩ := List.mem_map.mp h1
      have e3 : p.1 = (some z : Option Str).map fun z => (Sum.inr z : Key) := of_decide_eq_true e
      exact keyN_inj (e2.trans e3) ▸ hj
    · intro hm
      have h1 : ((some z : Option Str).map fun z => (Sum.inr z : Key)) ∈ vs.map (·.1) := by
        rw [ek]
        exact List.mem_map.mpr ⟨some z, hm, rfl⟩
      obtain ⟨p, hp, e⟩ := List.mem_map.mp h1
      exact ⟨p, hp, decide_eq_true e⟩
  rw [e]
  exact ⟨.bl _, H, I.tok _, rfl, q⟩
end
/-! ### d.get(k, x) where k may be None and the keys are ints and texts -/
def tDGet2N (td ty tx : TE) : TE := fun σ H Q => td σ H fun x H1 => ∃ a, x = .ref a ∧ IsD H1 a ∧ ty σ H1 fun y H2 => tx σ H2 fun z H3 => (∃ o, DGet H3 a y o ∧ Q (o.getD z) H3) ∨ ∃ kvs, y = .non ∧ H3 a = some (.dK kvs) ∧ Q z H3
section
variable {X : Cx} {o e f : Expr} {apos cpos : Pos} {td ty tx : TE}
theorem pe_dget2N (hu : X.A.units + 1 < cLine) (ho : PE X o td) (he : PE X e ty) (hf : PE X f tx) (m : M2 X o "get" apos e f cpos) : PE X (.Call (.Attribute o "get" apos) [e, f] [] cpos) (tDGet2N td ty tx) := by
  refine ⟨fun ps s σ H Q I h => ?_⟩
  refine wpAny_Call_method m.base m.few m.line PySem.F.plainAttrs_dict PySem.F.slot_dict_get PySem.F.type_dict_get (thn (ho.run ps s σ H _ I h) fun u s1 ⟨x, H1, I1, rx, a, ex, d, q1⟩ => ?_)
  subst ex
  obtain rfl : u = Value.ref a := rx
  obtain ⟨t1, t2, _⟩ := isD_at I1 d
  refine ⟨t1, t2, ?_⟩
  rw [m.trees]
  refine Calls.callWith_builtin rfl (Calls.evalArgs_plain (Calls.spliced_cons (thn (he.run ps s1 σ H1 _ I1 q1) fun iv s2 ⟨y, H2, I2, ry, q2⟩ =>
    Calls.spliced_cons (thn (hf.run ps s2 σ H2 _ I2 q2) fun fv s3 ⟨z, H3, I3, rz, q3⟩ => Calls.spliced_nil ?_))))
  rcases q3 with ⟨ov, g, q⟩ | ⟨kvs, rfl, hD, q⟩
  · exact d_get2 hu I3 g ry rz fun w' s4 I4 rw' => ⟨_, H3, I4, rw', q⟩
  · obtain ⟨_, hd, vs, _, dd⟩ := dk_of I3.hok hD
    obtain ⟨fn, hm, hn⟩ := none_map dd
    cases (show iv = Value.none from ry)
    refine call_meetsIn PySem.F.slot_dict_get dd.typeIs PySem.F.entry_dict_get (PySem.F.args_dict_get_3 _ _ _) (meets_dict_get_default (noneKind X.prog X.w) a (k := none) rfl hd fv) ⟨_, hm, ?_⟩
    rw [hn]
    exact ⟨z, H3, I3.tok _, rz, q⟩
end
end TG
/-! reading a writing off the heap; layouts whole -/
namespace TG
open PySem PySem.Spec L2
open PyProof.Rows hiding St
def SqA (K : PySem.W.Frag) (H : Hp) (a : Addr) (xs : List V) : Prop := SqL K H a xs ∨ SqT K H a xs
theorem SqA.same {K : PySem.W.Frag} {H H' : Hp} {a : Addr} {xs : List V} (h : SqA K H a xs) (s : Same H H') : SqA K H' a xs := h.imp (fun h => sqL_same h s) fun h => sqT_same h s
theorem ix_any {K : PySem.W.Frag} {H : Hp} {a : Addr} {xs : List V} {i : Nat} {v : V} {Q : VK} (h : SqA K H a xs) (e : xs[i]? = some v) (q : Q v H) : rIx K (.ref a) (.int (i : Int)) H Q := by
  rcases h with h | h
  · exact .inl ⟨a, xs, _, v, rfl, rfl, h, atI_nat e, q⟩
  · exact .inr (.inl ⟨a, xs, _, v, rfl, rfl, h, atI_nat e, q⟩)
theorem SqA.ty {K : PySem.W.Frag} {H : Hp} {a : Addr} {xs : List V} (h : SqA K H a xs) : ∃ n, HasTy K H (.ref a) n ∧ (n == "list" || n == "tuple") = true := by
  rcases h with h | h
  · exact ⟨_, .sqL h, rfl⟩
  · exact ⟨_, .sqT h, rfl⟩
theorem dp_nm {K : PySem.W.Frag} {H : Hp} {v : V} {d : PyData} {z : Str} (h : Dp K H v d) (t : Tells d (.nm z)) : v = .str z := by
  cases t
  cases h
  rfl
theorem dp_of {K : PySem.W.Frag} {H : Hp} {v : V} {d : PyData} {x : Str} {b : Wr} (h : Dp K H v d) (t : Tells d (.of x b)) : ∃ a ve e, v = .ref a ∧ SqA K H a [.str "of", .str x, ve] ∧ Dp K H ve e ∧ Tells e b := by
  cases t with
  | ofT t =>
    cases h with
    | tup h1 h2 =>
      obtain _ | ⟨g1, _ | ⟨g2, _ | ⟨g3, g4⟩⟩⟩ := h2
      cases g1; cases g2; cases g4
      exact ⟨_, _, _, rfl, .inr h1, g3, t⟩
  | ofL t =>
    cases h with
    | lst h1 h2 =>
      obtain _ | ⟨g1, _ | ⟨g2, _ | ⟨g3, g4⟩⟩⟩ := h2
      cases g1; cases g2; cases g4
      exact ⟨_, _, _, rfl, .inl h1, g3, t⟩
theorem dp_to {K : PySem.W.Frag} {H : Hp} {v : V} {d : PyData} {b c : Wr} (h : Dp K H v d) (t : Tells d (.to b c)) : ∃ a v1 e1 v2 e2, v = .ref a ∧ SqA K H a [.str "to", v1, v2] ∧ Dp K H v1 e1 ∧ Tells e1 b ∧ Dp K H v2 e2 ∧ Tells e2 c := by
  cases t with
  | toT t u =>
    cases h with
    | tup h1 h2 =>
      obtain _ | ⟨g1, _ | ⟨g2, _ | ⟨g3, g4⟩⟩⟩ := h2
      cases g1; cases g4
      exact ⟨_, _, _, _, _, rfl, .inr h1, g2, t, g3, u⟩
  | toL t u =>
    cases h with
    | lst h1 h2 =>
      obtain _ | ⟨g1, _ | ⟨g2, _ | ⟨g3, g4⟩⟩⟩ := h2
      cases g1; cases g4
      exact ⟨_, _, _, _, _, rfl, .inl h1, g2, t, g3, u⟩
/-- what is still to be read -/
structure SE where
  v : V
  d : PyData
  w : Wr
structure SEok (K : PySem.W.Frag) (H : Hp) (e : SE) : Prop where
  dp : Dp K H e.v e.d
  te : Tells e.d e.w
  ok : e.w.all okN = true
def seS (st : List SE) : List Wr := st.flatMap fun e => e.w.subs
def seN (st : List SE) : Nat := (st.map fun e => e.w.sg).sum
theorem seN_len : ∀ st : List SE, st.length ≤ seN st
  | [] => Nat.zero_le _
  | e :: st => by
    have h1 := e.w.sg_pos
    have h2 := seN_len st
    show st.length + 1 ≤ e.w.sg + seN st
    omega
theorem okN_short {z : Str} (h : okN z = true) : z.length ≤ 1000 := Nat.le_trans (ok_signs h).1 (by decide)
theorem drop_step {α : Type} {xs ys : List α} {n : Nat} {x : α} (h : xs.drop n = x :: ys) : xs[n]? = some x ∧ xs.drop (n + 1) = ys := by
  have h1 : xs[n]? = some x := by
    rw [← List.head?_drop, h]
    rfl
  refine ⟨h1, ?_⟩
  rw [← List.tail_drop, h]
  rfl
/-- the class, its object and the five lists -/
def layF (g e b a d : Addr) : List (Str × V) := [("signs", .ref g), ("ends", .ref e), ("below", .ref b), ("around", .ref a), ("binders", .ref d)]
def layF1 (g : Addr) : List (Str × V) := [("signs", .ref g)]
def layF2 (g e : Addr) : List (Str × V) := [("signs", .ref g), ("ends", .ref e)]
def layF3 (g e b : Addr) : List (Str × V) := [("signs", .ref g), ("ends", .ref e), ("below", .ref b)]
def layF4 (g e b a : Addr) : List (Str × V) := [("signs", .ref g), ("ends", .ref e), ("below", .ref b), ("around", .ref a)]
theorem putF_ne {f g : Str} {v x : V} {r : List (Str × V)} (h : (g == f) = false) : putF f v ((g, x) :: r) = (g, x) :: putF f v r := if_neg (by simpa using h)
theorem layF_2 (g e : Addr) : putF "ends" (.ref e) (layF1 g) = layF2 g e := putF_ne (by decide +kernel)
theorem layF_3 (g e b : Addr) : putF "below" (.ref b) (layF2 g e) = layF3 g e b := by
  unfold layF2
  rw [putF_ne (by decide +kernel), putF_ne (by decide +kernel)]
  rfl
theorem layF_4 (g e b a : Addr) : putF "around" (.ref a) (layF3 g e b) = layF4 g e b a := by
  unfold layF3
  rw [putF_ne (by decide +kernel), putF_ne (by decide +kernel), putF_ne (by decide +kernel)]
  rfl
theorem layF_5 (g e b a d : Addr) : putF "binders" (.ref d) (layF4 g e b a) = layF g e b a d := by
  unfold layF4
  rw [putF_ne (by decide +kernel), putF_ne (by decide +kernel), putF_ne (by decide +kernel), putF_ne (by decide +kernel)]
  rfl
theorem look_ne {f g : Str} {x : V} {r : List (Str × V)} (h : (f == g) = false) : ((g, x) :: r).lookup f = r.lookup f := by
  show (match f == g with | true => some x | false => r.lookup f) = _
  rw [h]
theorem lay_signs (g e b a d : Addr) : (layF g e b a d).lookup ("signs" : Str) = some (.ref g) := List.lookup_cons_self
theorem lay_ends (g e b a d : Addr) : (layF g e b a d).lookup ("ends" : Str) = some (.ref e) := by
  unfold layF
  rw [look_ne (by decide +kernel)]
  exact List.lookup_cons_self
theorem lay_below (g e b a d : Addr) : (layF g e b a d).lookup ("below" : Str) = some (.ref b) := by
  unfold layF
  rw [look_ne (by decide +kernel), look_ne (by decide +kernel)]
  exact List.lookup_cons_self
theorem lay_around (g e b a d : Addr) : (layF g e b a d).lookup ("around" : Str) = some (.ref a) := by
  unfold layF
  rw [look_ne (by decide +kernel), look_ne (by decide +kernel), look_ne (by decide +kernel)]
  exact List.lookup_cons_self
theorem lay_binders (g e b a d : Addr) : (layF g e b a d).lookup ("binders" : Str) = some (.ref d) := by
  unfold layF
  rw [look_ne (by decide +kernel), look_ne (by decide +kernel), look_ne (by decide +kernel), look_ne (by decide +kernel)]
  exact List.lookup_cons_self
theorem lay3_below (g e b : Addr) : (layF3 g e b).lookup ("below" : Str) = some (.ref b) := by
  unfold layF3
  rw [look_ne (by decide +kernel), look_ne (by decide +kernel)]
  exact List.lookup_cons_self
theorem lay4_around (g e b a : Addr) : (layF4 g e b a).lookup ("around" : Str) = some (.ref a) := by
  unfold layF4
  rw [look_ne (by decide +kernel), look_ne (by decide +kernel), look_ne (by decide +kernel)]
  exact List.lookup_cons_self
def LayAt (C : Addr) (H : Hp) (l : Addr) (w : Wr) : Prop := ∃ g e b a d dx, H l = some (.ins C dx (layF g e b a d)) ∧ SignsAt H g w ∧ EndsAt H e w ∧ BelowAt H b w ∧ AroundAt H a w ∧ BindAt H d w
theorem LayAt.same {C : Addr} {H H' : Hp} {l : Addr} {w : Wr} (h : LayAt C H l w) (s : Same H H') : LayAt C H' l w := by
  obtain ⟨g, e, b, a, d, dx, h0, h1, h2, h3, h4, h5⟩ := h
  exact ⟨g, e, b, a, d, dx, s _ _ h0, h1.same s, h2.same s, h3.same s, h4.same s, h5.same s⟩
def spSigns (K : PySem.W.Frag) : Sp := fun vs H Q _ => ∃ (v : V) (d : PyData) (w : Wr), vs = [v] ∧ Dp K H v d ∧ Tells d w ∧ w.all okN = true ∧ w.sg ≤ 2000 ∧
  ∀ (g : Addr) (H' : Hp), Same H H' → SignsAt H' g w → Q (.ref g) H'
def spLayI (C : Addr) : Sp := fun vs H Q _ => ∃ (p dx g : Addr) (w : Wr) (H0 : Hp), vs = [.ref p, .ref g] ∧ H p = some (.ins C dx []) ∧ SignsAt H0 g w ∧ Same H0 H ∧ H0 p = none ∧ w.sg ≤ 2000 ∧ w.all okN = true ∧
  ∀ (H' : Hp), Same H0 H' → LayAt C H' p w → Q .non H'
def spLaid (K : PySem.W.Frag) (C : Addr) : Sp := fun vs H Q _ => ∃ (v : V) (y : V) (d : PyData) (w : Wr), vs = [v, y] ∧ Dp K H v d ∧ Tells d w ∧ w.all okN = true ∧ w.sg ≤ 2000 ∧
  ∀ (l : Addr) (H' : Hp), Same H H' → LayAt C H' l w → Q (.ref l) H'
end TG
/-! the free names off a layout -/
namespace TG
open PySem PySem.Spec L2
open PyProof.Rows hiding St
/-- the sign at i is a free name -/
def frP (w : Wr) (i : Nat) : Bool := match w.subs[i]? with
  | some (.nm z) => decide (Wr.find z (w.env i) = none)
  | _ => false
theorem frIx_eq (w : Wr) : w.frIx = (List.range w.sg).filter (frP w) := rfl
theorem frIx_lt {w : Wr} {i : Nat} (h : i ∈ w.frIx) : i < w.sg := List.mem_range.mp (List.mem_filter.mp h).1
theorem frIx_len (w : Wr) : w.frIx.length ≤ w.sg := Nat.le_trans (List.length_filter_le _ _) (by rw [List.length_range]; exact Nat.le_refl _)
theorem frP_nm {w : Wr} {i : Nat} (h : frP w i = true) : ∃ z, w.subs[i]? = some (.nm z) ∧ Wr.find z (w.env i) = none := by
  unfold frP at h
  cases e : w.subs[i]? with
  | none => rw [e] at h; cases h
  | some s =>
    rw [e] at h
    cases s with
    | nm z => exact ⟨z, rfl, of_decide_eq_true h⟩
    | of _ _ => cases h
    | to _ _ => cases h
theorem frIx_nm {w : Wr} {i : Nat} (h : i ∈ w.frIx) : ∃ z, w.subs[i]? = some (.nm z) ∧ Wr.find z (w.env i) = none ∧ w.nmAt i = z := by
  obtain ⟨z, h1, h2⟩ := frP_nm (List.mem_filter.mp (frIx_eq w ▸ h)).2
  refine ⟨z, h1, h2, ?_⟩
  unfold Wr.nmAt
  rw [h1]
/-- names as the keys of a dict, each with True -/
def keysT (ns : List Str) : List (Key × V) := ns.map fun z => (Sum.inr z, V.bl true)
theorem keysT_put (ns : List Str) (z : Str) : putK (keysT ns) (Sum.inr z : Key) (.bl true) = keysT (Wr.ins ns z) := by
  unfold putK Wr.ins keysT
  by_cases c : z ∈ ns
  · rw [if_pos c, if_pos (by simp [c]), List.map_map]
    refine List.map_congr_left fun y _ => ?_
    show (if (Sum.inr y : Key) = Sum.inr z then _ else _) = _
    by_cases d : (Sum.inr y : Key) = Sum.inr z
    · rw [if_pos d]
    · rw [if_neg d]
  · rw [if_neg c, if_neg (by simp [c]), List.map_append]
    rfl
theorem keysT_len (ns : List Str) : (keysT ns).length = ns.length := List.length_map _
theorem ins_len (f : List Str) (z : Str) : (Wr.ins f z).length ≤ f.length + 1 := by
  unfold Wr.ins
  split
  · exact Nat.le_succ _
  · rw [List.length_append]; exact Nat.le_refl _
theorem foldl_len (l f : List Str) : (l.foldl Wr.ins f).length ≤ f.length + l.length := by
  induction l generalizing f with
  | nil => exact Nat.le_refl _
  | cons z l ih =>
    have h1 := ih (Wr.ins f z)
    have h2 := ins_len f z
    show (l.foldl Wr.ins (Wr.ins f z)).length ≤ f.length + (l.length + 1)
    omega
def natV (l : List Nat) : List V := l.map fun (i : Nat) => V.int (i : Int)
def spFreeS (C : Addr) : Sp := fun vs H Q _ => ∃ (l : Addr) (w : Wr), vs = [.ref l] ∧ LayAt C H l w ∧ w.sg ≤ 2000 ∧
  ∀ (a : Addr) (H' : Hp), Same H H' → H' a = some (.lst (natV w.frIx)) → Q (.ref a) H'
def spFreeI (C : Addr) : Sp := fun vs H Q _ => ∃ (l : Addr) (w : Wr), vs = [.ref l] ∧ LayAt C H l w ∧ w.sg ≤ 2000 ∧
  ∀ (t : Addr) (H' : Hp), Same H H' → H' t = some (.tup (w.fr.map V.str)) → Q (.ref t) H'
end TG
/-! depths, codes, alike -/
namespace TG
open PySem PySem.Spec L2
open PyProof.Rows hiding St
abbrev Fo := List (Wr × Nat)
def foS (fs : Fo) : List Wr := fs.flatMap fun p => p.1.subs
def foD (fs : Fo) : List Nat := fs.flatMap fun p => p.1.deps p.2
def foV (fs : Fo) : List V := fs.reverse.map fun p => V.int (p.2 : Int)
theorem foV_cons (p : Wr × Nat) (fs : Fo) : foV (p :: fs) = foV fs ++ [V.int (p.2 : Int)] := by
  unfold foV
  rw [List.reverse_cons, List.map_append]
  rfl
theorem foV_len (fs : Fo) : (foV fs).length = fs.length := by unfold foV; rw [List.length_map, List.length_reverse]
theorem foS_len : ∀ fs : Fo, fs.length ≤ (foS fs).length
  | [] => Nat.zero_le _
  | p :: fs => by
    have h1 := p.1.sg_pos
    have h2 := foS_len fs
    show fs.length + 1 ≤ (p.1.subs ++ foS fs).length
    rw [List.length_append, p.1.subs_len]
    omega
theorem natV_len (l : List Nat) : (natV l).length = l.length := List.length_map _
theorem natV_app (a b : List Nat) : natV (a ++ b) = natV a ++ natV b := List.map_append
theorem natV_at {l : List Nat} {i n : Nat} (h : l[i]? = some n) : (natV l)[i]? = some (V.int (n : Int)) := by unfold natV; rw [List.getElem?_map, h]; rfl
theorem foS_head : ∀ {fs : Fo} {s : Wr} {r : List Wr}, foS fs = s :: r → ∃ d fs', fs = (s, d) :: fs' ∧ s.subs ++ foS fs' = s :: r
  | [], s, r, h => nomatch h
  | (t, d) :: fs, s, r, h => by
    have h : t.subs ++ foS fs = s :: r := h
    have e : t = s := by
      cases t <;> (injection h with h1 _)
    subst e
    exact ⟨d, fs, rfl, h⟩
def spDepths : Sp := fun vs H Q _ => ∃ (r : Addr) (w : Wr), vs = [.ref r] ∧ H r = some (.lst (wdV w)) ∧ w.sg ≤ 2000 ∧
  ∀ (a : Addr) (H' : Hp), Same H H' → H' a = some (.lst (natV (w.deps 0))) → Q (.ref a) H'
def cdV : Cd → V
  | .inl z => .str z
  | .inr n => .int (n : Int)
def spCodes (C : Addr) : Sp := fun vs H Q _ => ∃ (l : Addr) (w : Wr), vs = [.ref l] ∧ LayAt C H l w ∧ w.sg ≤ 2000 ∧
  ∀ (a : Addr) (H' : Hp), Same H H' → H' a = some (.lst ((w.cnt []).cd.map cdV)) → Q (.ref a) H'
def cdD : Cd → PyData
  | .inl z => .str z
  | .inr n => .int (n : Int)
theorem cd_dp {K : PySem.W.Frag} {H : Hp} : ∀ l : List Cd, DpAll K H (l.map cdV) (l.map cdD)
  | [] => .nil
  | .inl z :: r => .cons (.str z) (cd_dp r)
  | .inr n :: r => .cons (.int _) (cd_dp r)
theorem cd_eqv1 (a b : Cd) : PyData.eqv (cdD a) (cdD b) = decide (a = b) := by
  cases a with
  | inl z =>
    cases b with
    | inl y =>
      show (z == y) = _
      rw [Bool.eq_iff_iff]
      simp
    | inr m => exact (decide_eq_false (fun h => nomatch h)).symm
  | inr n =>
    cases b with
    | inl y => exact (decide_eq_false (fun h => nomatch h)).symm
    | inr m =>
      show ((n : Int) == (m : Int)) = _
      rw [Bool.eq_iff_iff]
      simp
      omega
theorem cd_eqv : ∀ a b : List Cd, PyData.eqvAll (a.map cdD) (b.map cdD) = decide (a = b)
  | [], [] => rfl
  | [], _ :: _ => rfl
  | _ :: _, [] => rfl
  | x :: a, y :: b => by
    show (PyData.eqv (cdD x) (cdD y) && PyData.eqvAll (a.map cdD) (b.map cdD)) = _
    rw [cd_eqv1, cd_eqv a b, Bool.eq_iff_iff]
    simp
theorem cd_lay : ∀ {l : List Cd}, (∀ z, .inl z ∈ l → PyData.canLay0 (.str z) = true) → PyData.canLayAll0 (l.map cdD) = true
  | [], _ => rfl
  | .inl z :: r, h => by
    show (PyData.canLay0 (.str z) && PyData.canLayAll0 (r.map cdD)) = true
    rw [h z List.mem_cons_self, cd_lay fun y hy => h y (List.mem_cons_of_mem _ hy)]
    rfl
  | .inr n :: r, h => by
    show (PyData.canLay0 (.int _) && PyData.canLayAll0 (r.map cdD)) = true
    rw [cd_lay fun y hy => h y (List.mem_cons_of_mem _ hy)]
    rfl
theorem cd_words : ∀ {b : Bt} {z : Str}, b.all okN = true → .inl z ∈ b.cd → PyData.canLay0 (.str z) = true
  | .bd n, z, _, h => by cases List.mem_singleton.mp h
  | .fr y, z, hb, h => by cases List.mem_singleton.mp h; exact Bt.ok_lay hb
  | .of b, z, hb, h => by
    rcases List.mem_cons.mp h with h | h
    · cases h; decide +kernel
    · exact cd_words (b := b) hb h
  | .to a b, z, hb, h => by
    rcases List.mem_cons.mp h with h | h
    · cases h; decide +kernel
    · rcases List.mem_append.mp h with h | h
      · exact cd_words (Bool.and_eq_true_iff.mp hb).1 h
      · exact cd_words (Bool.and_eq_true_iff.mp hb).2 h
theorem cd_depth : ∀ l : List Cd, PyData.depthAll (l.map cdD) = 0
  | [] => rfl
  | .inl z :: r => by show max 0 _ = 0; rw [cd_depth r]; rfl
  | .inr n :: r => by show max 0 _ = 0; rw [cd_depth r]; rfl
theorem cd_shaped {b : Bt} (hb : b.all okN = true) : SeqAt.shaped (.list (b.cd.map cdD)) = true := by
  unfold SeqAt.shaped
  rw [Bool.and_eq_true]
  refine ⟨cd_lay fun z hz => cd_words hb hz, decide_eq_true ?_⟩
  show PyData.depthAll (b.cd.map cdD) + 1 ≤ 64
  rw [cd_depth]
  decide
end TG
/-! building a writing of a row of signs; new names -/
namespace TG
open PySem PySem.Spec L2
open PyProof.Rows hiding St
theorem ip_addS {X : Cx} : PIp X .Add rAddS := fun ps s σ H x y v u Q I r1 r2 h => in_addS ps s σ H x y v u Q I r1 r2 h
/-- a row of signs in whose names writings may stand -/
inductive Tr where
  | lf (v : V)
  | of (x : Str) (b : Tr)
  | to (a b : Tr)
namespace Tr
def sz : Tr → Nat
  | lf _ => 1
  | of _ b => b.sz + 1
  | to a b => a.sz + b.sz + 1
/-- a sign's pair -/
def hd : Tr → V × V
  | lf v => (.str "name", v)
  | of x _ => (.str "of", .str x)
  | to _ _ => (.str "to", .non)
def ents : Tr → List (V × V)
  | lf v => [hd (lf v)]
  | of x b => hd (of x b) :: b.ents
  | to a b => hd (to a b) :: (a.ents ++ b.ents)
theorem ents_len : ∀ t : Tr, t.ents.length = t.sz
  | lf _ => rfl
  | of _ b => by show b.ents.length + 1 = _; rw [ents_len b]; rfl
  | to a b => by show (a.ents ++ b.ents).length + 1 = _; rw [List.length_append, ents_len a, ents_len b]; rfl
def kids : Tr → List Tr
  | lf _ => []
  | of _ b => [b]
  | to a b => [a, b]
theorem ents_kids (t : Tr) : t.ents = t.hd :: t.kids.flatMap ents := by
  cases t with
  | lf _ => rfl
  | of x b => show _ :: b.ents = _ :: (b.ents ++ []); rw [List.append_nil]
  | to a b => show _ :: (a.ents ++ b.ents) = _ :: (a.ents ++ (b.ents ++ [])); rw [List.append_nil]
def nxt : List Tr → List Tr
  | [] => []
  | t :: r => t.kids ++ r
/-- what is left of it behind so many signs -/
def fo (t : Tr) : Nat → List Tr
  | 0 => [t]
  | i + 1 => nxt (fo t i)
theorem fo_drop (t : Tr) : ∀ i, i ≤ t.sz → t.ents.drop i = (fo t i).flatMap ents
  | 0, _ => by show t.ents = t.ents ++ []; rw [List.append_nil]
  | i + 1, h => by
    have ih := fo_drop t i (by omega)
    have e : t.ents.drop i ≠ [] := fun z => by
      have := congrArg List.length z
      rw [List.length_drop, ents_len] at this
      have : t.sz - i = 0 := this
      omega
    rw [← List.tail_drop, ih]
    show _ = (nxt (fo t i)).flatMap ents
    cases q : fo t i with
    | nil => rw [q] at ih; exact absurd ih e
    | cons s r =>
      show (s.ents ++ r.flatMap ents).tail = (s.kids ++ r).flatMap ents
      rw [ents_kids s, List.flatMap_append]
      rfl
theorem fo_head (t : Tr) {i : Nat} (h : i < t.sz) : ∃ s r, fo t i = s :: r ∧ t.ents[i]? = some s.hd := by
  have e := fo_drop t i (Nat.le_of_lt h)
  cases q : fo t i with
  | nil =>
    rw [q] at e
    have := congrArg List.length e
    rw [List.length_drop, ents_len] at this
    have : t.sz - i = 0 := this
    omega
  | cons s r =>
    refine ⟨s, r, rfl, ?_⟩
    rw [q] at e
    rw [← List.head?_drop, e]
    show (s.ents ++ _).head? = _
    rw [ents_kids]
    rfl
theorem fo_end (t : Tr) : fo t t.sz = [] := by
  have e := fo_drop t t.sz (Nat.le_refl _)
  rw [List.drop_eq_nil_iff.mpr (by rw [ents_len]; exact Nat.le_refl _)] at e
  cases q : fo t t.sz with
  | nil => rfl
  | cons s r =>
    rw [q] at e
    have e : [] = s.ents ++ r.flatMap ents := e
    rw [ents_kids] at e
    cases e
end Tr
/-- it stands at v -/
inductive TV (H : Hp) : V → Tr → Prop where
  | lf (v : V) : TV H v (.lf v)
  | of {a : Addr} {x : Str} {v : V} {b : Tr} : H a = some (.tup [.str "of", .str x, v]) → TV H v b → TV H (.ref a) (.of x b)
  | to {a : Addr} {u v : V} {b c : Tr} : H a = some (.tup [.str "to", u, v]) → TV H u b → TV H v c → TV H (.ref a) (.to b c)
theorem TV.mono {H H' : Hp} {v : V} {t : Tr} (h : TV H v t) (k : ∀ a xs, H a = some (.tup xs) → H' a = some (.tup xs)) : TV H' v t := by
  induction h with
  | lf v => exact .lf v
  | of e _ ih => exact .of (k _ _ e) ih
  | to e _ _ i1 i2 => exact .to (k _ _ e) i1 i2
/-- which writing it is -/
inductive TW (H : Hp) : Tr → Wr → Prop where
  | lf {v : V} {w : Wr} : WA H v w → TW H (.lf v) w
  | of {x : Str} {b : Tr} {w : Wr} : TW H b w → TW H (.of x b) (.of x w)
  | to {a b : Tr} {w u : Wr} : TW H a w → TW H b u → TW H (.to a b) (.to w u)
theorem TV.wa {H : Hp} {v : V} {t : Tr} {w : Wr} (h : TV H v t) (k : TW H t w) : WA H v w := by
  induction h generalizing w with
  | lf v => cases k with | lf h => exact h
  | of e _ ih => cases k with | of h => exact .of e (ih h)
  | to e _ _ i1 i2 => cases k with | to h1 h2 => exact .to e (i1 h1) (i2 h2)
theorem TW.same {H H' : Hp} {t : Tr} {w : Wr} (h : TW H t w) (s : Same H H') : TW H' t w := by
  induction h with
  | lf h => exact .lf (h.same s)
  | of _ ih => exact .of ih
  | to _ _ i1 i2 => exact .to i1 i2
/-- the pairs stand in a list -/
def EntsAt (H : Hp) (g : Addr) (t : Tr) : Prop := ∃ ts : List Addr, H g = some (.lst (ts.map V.ref)) ∧ ts.length = t.sz ∧ ∀ (i : Nat) (p : V × V) (a : Addr), t.ents[i]? = some p → ts[i]? = some a → H a = some (.tup [p.1, p.2])
theorem EntsAt.same {H H' : Hp} {g : Addr} {t : Tr} (h : EntsAt H g t) (s : Same H H') : EntsAt H' g t := let ⟨ts, h1, h2, h3⟩ := h; ⟨ts, s _ _ h1, h2, fun i p a x y => s _ _ (h3 i p a x y)⟩
def spBuilt : Sp := fun vs H Q _ => ∃ (g : Addr) (t : Tr), vs = [.ref g] ∧ EntsAt H g t ∧ t.sz ≤ 100000 ∧ ∀ (v : V) (H' : Hp), Same H H' → TV H' v t → Q v H'
/-- a writing as such a row -/
def Wr.tr : Wr → Tr
  | .nm z => .lf (.str z)
  | .of x b => .of x b.tr
  | .to a b => .to a.tr b.tr
theorem Wr.tr_sz : ∀ w : Wr, w.tr.sz = w.sg
  | .nm _ => rfl
  | .of _ b => congrArg (· + 1) (Wr.tr_sz b)
  | .to a b => by show a.tr.sz + b.tr.sz + 1 = _; rw [Wr.tr_sz a, Wr.tr_sz b]; rfl
theorem Wr.tr_ents : ∀ w : Wr, w.tr.ents = w.subs.map fun s => (V.str s.wd, nvV s)
  | .nm _ => rfl
  | .of x b => by show _ :: b.tr.ents = _; rw [Wr.tr_ents b]; rfl
  | .to a b => by show _ :: (a.tr.ents ++ b.tr.ents) = _; rw [Wr.tr_ents a, Wr.tr_ents b, ← List.map_append]; rfl
theorem Wr.tr_tw (H : Hp) : ∀ w : Wr, TW H w.tr w
  | .nm z => .lf (.nm z)
  | .of _ b => .of (Wr.tr_tw H b)
  | .to a b => .to (Wr.tr_tw H a) (Wr.tr_tw H b)
/-- a part of a row of signs -/
theorem ents_part {H : Hp} {g2 : Addr} {w s : Wr} {i : Nat} {ts : List Addr} (hl : ts.length = w.sg) (ht : ∀ (i : Nat) (s : Wr) (t : Addr), w.subs[i]? = some s → ts[i]? = some t → H t = some (.tup [.str s.wd, nvV s])) (hs : w.subs[i]? = some s)
    (h2 : H g2 = some (.lst (((ts.drop i).take s.sg).map V.ref))) : EntsAt H g2 s.tr := by
  have fit := Wr.subs_fit hs
  refine ⟨_, h2, by rw [List.length_take, List.length_drop, hl, s.tr_sz]; omega, fun j p a hp ha => ?_⟩
  rw [s.tr_ents, List.getElem?_map] at hp
  obtain ⟨u, hu, rfl⟩ := Option.map_eq_some_iff.mp hp
  have hj := Wr.subs_lt hu
  rw [List.getElem?_take, if_pos hj, List.getElem?_drop] at ha
  exact ht (i + j) u a ((Wr.subs_at hs j hj).trans hu) ha
def spPart (C : Addr) : Sp := fun vs H Q _ => ∃ (l : Addr) (w s : Wr) (i : Nat), vs = [.ref l, .int (i : Int)] ∧ LayAt C H l w ∧ w.sg ≤ 2000 ∧ w.subs[i]? = some s ∧ ∀ (v : V) (H' : Hp), Same H H' → WA H' v s → Q v H'
end TG
/-! new names; which "of"s get them -/
namespace TG
open PySem PySem.Spec L2
open PyProof.Rows hiding St
def strN (k : Nat) : Str := Str.ofString (toString ((k : Nat) : Int))
def letN (n : Nat) : Str := ⟨#[97 + n % 26]⟩
def nmN (n : Nat) : Str := if n / 26 = 0 then letN n else letN n ++ strN (n / 26 - 1)
def dgs (l : List Nat) : Bool := l.all fun c => decide (48 ≤ c ∧ c ≤ 57)
theorem strN_ok : ∀ k, k < 400 → (dgs (strN k).cps.toList && decide (1 ≤ (strN k).cps.toList.length) && decide ((strN k).cps.toList.length ≤ 3)) = true := by decide +kernel
theorem strN_inj {m n : Nat} (hm : m < 10 ^ 9) (hn : n < 10 ^ 9) (h : strN m = strN n) : m = n := by
  have h1 := PySem.W.KIN.num_reads (n := (m : Int)) (by omega) (by omega)
  have h2 := PySem.W.KIN.num_reads (n := (n : Int)) (by omega) (by omega)
  unfold strN at h
  rw [h, h2] at h1
  have := Option.some.inj h1
  omega
theorem str_ext {a b : Str} (h : a.cps.toList = b.cps.toList) : a = b := by
  cases a; cases b
  congr 1
  exact Array.toList_inj.mp h
theorem app_list (a b : Str) : (a ++ b).cps.toList = a.cps.toList ++ b.cps.toList := by
  show (a.cps ++ b.cps).toList = _
  exact Array.toList_append
/-- its signs: a letter, then digits -/
theorem nmN_list {n : Nat} (hn : n < 10000) : ∃ ds, (nmN n).cps.toList = (97 + n % 26) :: ds ∧ dgs ds = true ∧ ds.length ≤ 3 ∧ (n / 26 = 0 → ds = []) ∧ (n / 26 ≠ 0 → ds = (strN (n / 26 - 1)).cps.toList ∧ 1 ≤ ds.length) := by
  unfold nmN
  by_cases c : n / 26 = 0
  · rw [if_pos c]
    exact ⟨[], rfl, rfl, by decide, fun _ => rfl, fun z => absurd c z⟩
  · rw [if_neg c, app_list]
    have h := strN_ok (n / 26 - 1) (by omega)
    simp only [Bool.and_eq_true, decide_eq_true_eq] at h
    exact ⟨(strN (n / 26 - 1)).cps.toList, rfl, h.1.1, h.2, fun z => absurd z c, fun _ => ⟨rfl, h.1.2⟩⟩
theorem nmN_inj {m n : Nat} (hm : m < 10000) (hn : n < 10000) (h : nmN m = nmN n) : m = n := by
  obtain ⟨d1, e1, _, _, a1, b1⟩ := nmN_list hm
  obtain ⟨d2, e2, _, _, a2, b2⟩ := nmN_list hn
  rw [h, e2] at e1
  injection e1 with z1 z2
  by_cases c1 : m / 26 = 0
  · by_cases c2 : n / 26 = 0
    · omega
    · rw [z2, a1 c1] at b2
      have := (b2 c2).2
      exact absurd this (by decide)
  · by_cases c2 : n / 26 = 0
    · rw [← z2, a2 c2] at b1
      have := (b1 c1).2
      exact absurd this (by decide)
    · have e : strN (m / 26 - 1) = strN (n / 26 - 1) := str_ext (by rw [← (b1 c1).1, ← (b2 c2).1, z2])
      have := strN_inj (by omega) (by omega) e
      omega
theorem okN_let {z : Str} {c : Nat} {ds : List Nat} (h : z.cps.toList = c :: ds) (h1 : 97 ≤ c ∧ c ≤ 122) (h2 : dgs ds = true) (h3 : ds.length ≤ 3) : okN z = true := by
  have hl : z.length = ds.length + 1 := by
    show z.cps.size = _
    rw [← Array.length_toList, h]
    rfl
  have n1 : ∀ {y : Str} {a b : Nat}, y.cps.toList = [a, b] → 57 < b → z ≠ y := by
    rintro y a b hy hb rfl
    rw [h] at hy
    cases hy
    have := List.all_eq_true.mp h2 b List.mem_cons_self
    have := of_decide_eq_true this
    omega
  unfold okN
  rw [h]
  simp only [Bool.and_eq_true, decide_eq_true_eq]
  refine ⟨⟨⟨n1 (y := "of") (a := 111) (b := 102) (by decide +kernel) (by decide), n1 (y := "to") (a := 116) (b := 111) (by decide +kernel) (by decide)⟩, by omega, by omega⟩, h1, ?_⟩
  refine List.all_eq_true.mpr fun x hx => ?_
  rw [Bool.or_eq_true]
  exact .inr (List.all_eq_true.mp h2 x hx)
theorem nmN_ok {n : Nat} (hn : n < 10000) : okN (nmN n) = true := by
  obtain ⟨ds, h, h2, h3, _⟩ := nmN_list hn
  exact okN_let h (by omega) h2 h3
/-- unlike ones among others are no more than these -/
theorem nodup_le {α : Type} [DecidableEq α] : ∀ {l m : List α}, l.Nodup → (∀ x ∈ l, x ∈ m) → l.length ≤ m.length
  | [], m, _, _ => Nat.zero_le _
  | x :: l, m, h, k => by
    have hx : x ∈ m := k x List.mem_cons_self
    have hn := List.nodup_cons.mp h
    have ih := nodup_le (l := l) (m := m.erase x) hn.2 fun y hy => by
      refine (List.mem_erase_of_ne (fun e => hn.1 (by rw [← e]; exact hy))).mpr (k y (List.mem_cons_of_mem _ hy))
    rw [List.length_erase_of_mem hx] at ih
    have : 1 ≤ m.length := List.length_pos_of_mem hx
    show l.length + 1 ≤ m.length
    omega
theorem nodup_on {α β : Type} {f : α → β} : ∀ {l : List α}, (∀ x ∈ l, ∀ y ∈ l, f x = f y → x = y) → l.Nodup → (l.map f).Nodup
  | [], _, _ => List.nodup_nil
  | x :: l, h, n => by
    have n2 := List.nodup_cons.mp n
    refine List.nodup_cons.mpr ⟨fun hm => ?_, nodup_on (fun a ha b hb => h a (List.mem_cons_of_mem _ ha) b (List.mem_cons_of_mem _ hb)) n2.2⟩
    obtain ⟨y, hy, e⟩ := List.mem_map.mp hm
    exact n2.1 (by rw [h x List.mem_cons_self y (List.mem_cons_of_mem _ hy) e.symm]; exact hy)
/-- the new ones among the first so many -/
def nwL (ns : List (Option Str)) (k : Nat) : List Str := ((List.range k).filter fun n => !decide (some (nmN n) ∈ ns)).map nmN
theorem nwL_succ (ns : List (Option Str)) (k : Nat) : nwL ns (k + 1) = nwL ns k ++ if some (nmN k) ∈ ns then [] else [nmN k] := by
  unfold nwL
  rw [List.range_succ, List.filter_append, List.map_append]
  congr 1
  by_cases c : some (nmN k) ∈ ns
  · rw [if_pos c, List.filter_cons_of_neg (by simp [c])]
    rfl
  · rw [if_neg c, List.filter_cons_of_pos (by simp [c])]
    rfl
theorem nwL_nodup {ns : List (Option Str)} {k : Nat} (hk : k ≤ 10000) : (nwL ns k).Nodup := by
  unfold nwL
  refine nodup_on ?_ (List.nodup_range.filter _)
  intro x hx y hy e
  exact nmN_inj (Nat.lt_of_lt_of_le (List.mem_range.mp (List.mem_filter.mp hx).1) hk) (Nat.lt_of_lt_of_le (List.mem_range.mp (List.mem_filter.mp hy).1) hk) e
theorem nwL_mem {ns : List (Option Str)} {k : Nat} (hk : k ≤ 10000) : ∀ z ∈ nwL ns k, some z ∉ ns ∧ okN z = true := by
  intro z hz
  obtain ⟨n, hn, rfl⟩ := List.mem_map.mp hz
  obtain ⟨h1, h2⟩ := List.mem_filter.mp hn
  refine ⟨by simpa using h2, nmN_ok (Nat.lt_of_lt_of_le (List.mem_range.mp h1) hk)⟩
theorem nwL_len {ns : List (Option Str)} {k : Nat} (hk : k ≤ 10000) : k ≤ (nwL ns k).length + ns.length := by
  have h1 : ((List.range k).filter fun n => decide (some (nmN n) ∈ ns)).length ≤ ns.length := by
    rw [← List.length_map (f := fun n => some (nmN n))]
    refine nodup_le (nodup_on ?_ (List.nodup_range.filter _)) ?_
    · intro x hx y hy e
      exact nmN_inj (Nat.lt_of_lt_of_le (List.mem_range.mp (List.mem_filter.mp hx).1) hk) (Nat.lt_of_lt_of_le (List.mem_range.mp (List.mem_filter.mp hy).1) hk) (Option.some.inj e)
    · intro x hx
      obtain ⟨n, hn, rfl⟩ := List.mem_map.mp hx
      exact of_decide_eq_true (List.mem_filter.mp hn).2
  have h2 : ∀ (p : Nat → Bool) (l : List Nat), l.length = (l.filter p).length + (l.filter fun n => !p n).length := by
    intro p l
    induction l with
    | nil => rfl
    | cons x l ih =>
      cases c : p x with
      | true =>
        rw [List.filter_cons_of_pos c, List.filter_cons_of_neg (by simp [c])]
        show l.length + 1 = _
        rw [List.length_cons]
        omega
      | false =>
        rw [List.filter_cons_of_neg (by simp [c]), List.filter_cons_of_pos (by simp [c])]
        show l.length + 1 = _
        rw [List.length_cons]
        omega
  have h3 := h2 (fun n => decide (some (nmN n) ∈ ns)) (List.range k)
  rw [List.length_range] at h3
  unfold nwL
  rw [List.length_map]
  omega
theorem nwL_pre (ns : List (Option Str)) {n N : Nat} (h : n ≤ N) : ∃ r, nwL ns N = nwL ns n ++ r := by
  induction h with
  | refl => exact ⟨[], (List.append_nil _).symm⟩
  | step _ ih =>
    obtain ⟨r, e⟩ := ih
    exact ⟨_, by rw [nwL_succ, e, List.append_assoc]⟩
theorem nwL_take (ns : List (Option Str)) {n N : Nat} (h : n ≤ N) : (nwL ns N).take (nwL ns n).length = nwL ns n := by
  obtain ⟨r, e⟩ := nwL_pre ns h
  rw [e, List.take_left]
def spNew (P : Program) (w : World) : Sp := fun vs H Q _ => ∃ (c : Nat) (D : Addr) (ns : List (Option Str)), vs = [.int (c : Int), .ref D] ∧ NAt P w H D ns ∧ c ≤ 2000 ∧ ns.length ≤ 4200 ∧
  ∀ (a : Addr) (l : List Str) (H' : Hp), Same H H' → H' a = some (.lst (l.map V.str)) → l.length = c → l.Nodup → (∀ z ∈ l, some z ∉ ns ∧ okN z = true) → l = (nwL ns (c + ns.length)).take c → Q (.ref a) H'
theorem NAt.same {P : Program} {w : World} {H H' : Hp} {D : Addr} {ns : List (Option Str)} (h : NAt P w H D ns) (s : Same H H') : NAt P w H' D ns := h.imp (s _ _) fun h => ⟨h.1, s _ _ h.2⟩
end TG
/-! what is put in: which "of"s are told anew -/
namespace TG
open PySem PySem.Spec L2
open PyProof.Rows hiding St
namespace Wr
theorem frL_ex {z : Str} {b : Wr} {o : Nat} {e : List (Str × Nat)} (h : z ∈ b.frL (e.map (·.1))) : ∃ (j : Nat) (l : List (Str × Nat)), b.subs[j]? = some (nm z) ∧ (b.envs o e)[j]? = some l ∧ find z l = none := by
  rw [← free_zip b o e] at h
  obtain ⟨p, hp, e1⟩ := List.mem_filterMap.mp h
  obtain ⟨j, hj⟩ := List.getElem?_of_mem hp
  obtain ⟨h1, h2⟩ := List.getElem?_zip_eq_some.mp hj
  obtain ⟨s, l⟩ := p
  cases s with
  | nm y =>
    have e1 : (if find y l = none then some y else none) = some z := e1
    by_cases c : find y l = none
    · rw [if_pos c] at e1
      cases e1
      exact ⟨j, l, h1, h2, c⟩
    · rw [if_neg c] at e1; cases e1
  | of _ _ => cases e1
  | to _ _ => cases e1
theorem envs_suf : ∀ {b : Wr} {o j : Nat} {e l : List (Str × Nat)}, (b.envs o e)[j]? = some l → ∃ pre, l = pre ++ e
  | nm _, o, 0, e, l, h => by cases h; exact ⟨[], rfl⟩
  | nm _, o, j + 1, e, l, h => nomatch h
  | of x b, o, 0, e, l, h => by cases h; exact ⟨[], rfl⟩
  | of x b, o, j + 1, e, l, h => by
    obtain ⟨pre, q⟩ := envs_suf (b := b) (show (b.envs (o + 1) ((x, o) :: e))[j]? = some l from h)
    exact ⟨pre ++ [(x, o)], by rw [q, List.append_assoc]; rfl⟩
  | to a b, o, 0, e, l, h => by cases h; exact ⟨[], rfl⟩
  | to a b, o, j + 1, e, l, h => by
    have h : (a.envs (o + 1) e ++ b.envs (o + 1 + a.sg) e)[j]? = some l := h
    by_cases c : j < (a.envs (o + 1) e).length
    · rw [List.getElem?_append_left c] at h
      exact envs_suf (b := a) h
    · rw [List.getElem?_append_right (by omega)] at h
      exact envs_suf (b := b) h
/-- an "of" in whose body the name is free stands around one of its signs -/
theorem gone_around {w b : Wr} {x z : Str} {i : Nat} (hs : w.subs[i]? = some (of x b)) (h : z ∈ b.frL (x :: (w.env i).map (·.1))) : ∃ g, g ∈ w.frIx ∧ w.nmAt g = z ∧ (x, i) ∈ w.env g := by
  have hb := kid_of hs
  obtain ⟨e, he⟩ := envs_at (o := 0) (e0 := []) hb
  have e0 : e = (x, i) :: w.env i := by
    have h1 := he 0 b.sg_pos
    rw [Nat.add_zero, Nat.zero_add, envs_zero] at h1
    have h2 := env_eq (w := w) (i := i + 1) (subs_lt hb)
    rw [h1, env_of hs] at h2
    exact Option.some.inj h2
  subst e0
  obtain ⟨j, l, hj, hl, hf⟩ := frL_ex (o := i + 1) (e := (x, i) :: w.env i) h
  have hjl := subs_lt hj
  have hw : w.subs[i + 1 + j]? = some (nm z) := (subs_at hb j hjl).trans hj
  have hwe : w.env (i + 1 + j) = l := by
    have h1 := he j hjl
    rw [Nat.zero_add, hl] at h1
    have h2 := env_eq (subs_lt hw)
    rw [h1] at h2
    exact (Option.some.inj h2).symm
  refine ⟨i + 1 + j, ?_, ?_, ?_⟩
  · rw [frIx_eq]
    refine List.mem_filter.mpr ⟨List.mem_range.mpr (subs_lt hw), ?_⟩
    unfold frP
    rw [hw]
    exact decide_eq_true (by rw [hwe]; exact hf)
  · unfold nmAt
    rw [hw]
  · rw [hwe]
    obtain ⟨pre, q⟩ := envs_suf hl
    rw [q]
    exact List.mem_append_right _ List.mem_cons_self
/-- the second of a sign's pair, as a name or none -/
def nvO : Wr → Option Str
  | nm z => some z
  | of x _ => some x
  | to _ _ => none
theorem nvO_v (s : Wr) : nvV s = optS s.nvO := by cases s <;> rfl
theorem nms_subs : ∀ {w : Wr} {z : Str}, z ∈ w.nms → ∃ s ∈ w.subs, s.nvO = some z
  | nm y, z, h => ⟨nm y, List.mem_singleton_self _, congrArg some (List.mem_singleton.mp h).symm⟩
  | of x b, z, h => by
    rcases List.mem_cons.mp h with rfl | h
    · exact ⟨_, List.mem_cons_self, rfl⟩
    · obtain ⟨s, hs, e⟩ := nms_subs h
      exact ⟨s, List.mem_cons_of_mem _ hs, e⟩
  | to a b, z, h => by
    rcases List.mem_append.mp h with h | h
    · obtain ⟨s, hs, e⟩ := nms_subs h
      exact ⟨s, List.mem_cons_of_mem _ (List.mem_append_left _ hs), e⟩
    · obtain ⟨s, hs, e⟩ := nms_subs h
      exact ⟨s, List.mem_cons_of_mem _ (List.mem_append_right _ hs), e⟩
theorem env_nodup {w : Wr} : ∀ {i : Nat}, i < w.sg → ((w.env i).map (·.2)).Nodup := by
  intro i
  induction i using Nat.strongRecOn with
  | _ i ih =>
    intro hi
    by_cases h0 : i = 0
    · subst h0
      rw [env_zero]
      exact List.nodup_nil
    obtain ⟨j, s, k, hj, hs, hk, rfl⟩ := has_par (w := w) (i := i) (by omega) hi
    have c := ih j hj (subs_lt hs)
    cases s with
    | nm z => exact absurd hk List.not_mem_nil
    | of x b =>
      rw [List.mem_singleton.mp hk, env_of hs]
      refine List.nodup_cons.mpr ⟨fun hm => ?_, c⟩
      obtain ⟨p, hp, ep⟩ := List.mem_map.mp hm
      have h1 := env_lt w (subs_lt hs) p hp
      have h2 : p.2 = j := ep
      omega
    | to a b =>
      rcases List.mem_cons.mp hk with rfl | hk
      · rw [env_one hs]; exact c
      · rw [List.mem_singleton.mp hk, ← Nat.add_assoc, env_two hs]; exact c
/-- where those around stand -/
def ix (w : Wr) (g : Nat) : List Nat := (w.env g).map (·.2)
/-- with each its own are there -/
def Closed (w : Wr) (l : List Nat) : Prop := ∀ j ∈ l, (∃ x b, w.subs[j]? = some (of x b)) ∧ ∀ k ∈ w.ix j, k ∈ l
theorem closed_app {w : Wr} {l : List Nat} (h : Closed w l) {e : List (Str × Nat)} (c : Chain w e) : Closed w (l ++ e.map (·.2)) := by
  intro j hj
  rcases List.mem_append.mp hj with hj | hj
  · exact ⟨(h j hj).1, fun k hk => List.mem_append_left _ ((h j hj).2 k hk)⟩
  · have key : ∀ {e : List (Str × Nat)}, Chain w e → ∀ j ∈ e.map (·.2), (∃ x b, w.subs[j]? = some (of x b)) ∧ ∀ k ∈ w.ix j, k ∈ e.map (·.2) := by
      intro e
      induction e with
      | nil => intro _ j hj; exact absurd hj List.not_mem_nil
      | cons p e ih =>
        obtain ⟨x, i⟩ := p
        rintro ⟨⟨b, hb⟩, he, hc⟩ j hj
        rcases List.mem_cons.mp hj with hj | hj
        · have hj : j = i := hj
          subst hj
          refine ⟨⟨x, b, hb⟩, fun k hk => ?_⟩
          unfold ix at hk
          rw [he] at hk
          exact List.mem_cons_of_mem _ hk
        · exact ⟨(ih hc j hj).1, fun k hk => List.mem_cons_of_mem _ ((ih hc j hj).2 k hk)⟩
    exact ⟨(key c j hj).1, fun k hk => List.mem_append_right _ ((key c j hj).2 k hk)⟩
end Wr
def keysB (l : List Nat) : List (Key × V) := l.map fun (i : Nat) => (Sum.inl (i : Int), V.bl true)
theorem keysB_len (l : List Nat) : (keysB l).length = l.length := List.length_map _
theorem keysB_val (l : List Nat) (i : Nat) : (valV (keysB l) (Sum.inl (i : Int) : Key)).isSome = decide (i ∈ l) := by
  unfold valV keysB
  rw [Option.isSome_map, Bool.eq_iff_iff, decide_eq_true_eq, List.find?_isSome]
  constructor
  · rintro ⟨p, hp, e⟩
    obtain ⟨j, hj, rfl⟩ := List.mem_map.mp hp
    have e : (Sum.inl (j : Int) : Key) = Sum.inl (i : Int) := of_decide_eq_true e
    have e2 := Sum.inl.inj e
    have : j = i := by omega
    exact this ▸ hj
  · intro h
    exact ⟨_, List.mem_map.mpr ⟨i, h, rfl⟩, decide_eq_true rfl⟩
theorem keysB_put {l : List Nat} {i : Nat} (h : i ∉ l) : putK (keysB l) (Sum.inl (i : Int) : Key) (.bl true) = keysB (l ++ [i]) := by
  have e : valV (keysB l) (Sum.inl (i : Int) : Key) = none := by
    have := keysB_val l i
    rw [decide_eq_false h] at this
    exact Option.isSome_eq_false_iff.mp this |> Option.isNone_iff_eq_none.mp
  rw [putK_new _ e]
  unfold keysB
  rw [List.map_append]
  rfl
theorem keysB_put2 {l : List Nat} {i : Nat} (h : i ∈ l) : putK (keysB l) (Sum.inl (i : Int) : Key) (.bl true) = keysB l := by
  unfold putK keysB
  have hm : ((l.map fun (i : Nat) => ((Sum.inl (i : Int) : Key), V.bl true)).any fun kv => decide (kv.1 = Sum.inl (i : Int))) = true := List.any_eq_true.mpr ⟨(Sum.inl (i : Int), V.bl true), List.mem_map.mpr ⟨i, h, rfl⟩, decide_eq_true rfl⟩
  rw [if_pos hm, List.map_map]
  refine List.map_congr_left fun y _ => ?_
  show (if (Sum.inl (y : Int) : Key) = Sum.inl (i : Int) then _ else _) = _
  by_cases d : (Sum.inl (y : Int) : Key) = Sum.inl (i : Int)
  · rw [if_pos d]
  · rw [if_neg d]
theorem keysT_val (l : List Str) (z : Str) : (valV (keysT l) (Sum.inr z : Key)).isSome = decide (z ∈ l) := by
  unfold valV keysT
  rw [Option.isSome_map, Bool.eq_iff_iff, decide_eq_true_eq, List.find?_isSome]
  constructor
  · rintro ⟨p, hp, e⟩
    obtain ⟨j, hj, rfl⟩ := List.mem_map.mp hp
    have e : (Sum.inr j : Key) = Sum.inr z := of_decide_eq_true e
    exact Sum.inr.inj e ▸ hj
  · intro h
    exact ⟨_, List.mem_map.mpr ⟨z, h, rfl⟩, decide_eq_true rfl⟩
theorem mem_ins {l : List Str} : ∀ {f : List Str} {z : Str}, z ∈ l.foldl Wr.ins f ↔ z ∈ f ∨ z ∈ l := by
  induction l with
  | nil => intro f z; simp
  | cons x l ih =>
    intro f z
    show z ∈ l.foldl Wr.ins (Wr.ins f x) ↔ _
    rw [ih]
    unfold Wr.ins
    by_cases c : x ∈ f
    · rw [if_pos c, List.mem_cons]
      constructor
      · rintro (h | h)
        · exact .inl h
        · exact .inr (.inr h)
      · rintro (h | h | h)
        · exact .inl h
        · exact .inl (h ▸ c)
        · exact .inr h
    · rw [if_neg c, List.mem_append, List.mem_singleton, List.mem_cons, or_assoc]
theorem mem_insN {l : List (Option Str)} : ∀ {f : List (Option Str)} {z : Option Str}, z ∈ l.foldl insN f ↔ z ∈ f ∨ z ∈ l := by
  induction l with
  | nil => intro f z; simp
  | cons x l ih =>
    intro f z
    show z ∈ l.foldl insN (insN f x) ↔ _
    rw [ih]
    unfold insN
    by_cases c : x ∈ f
    · rw [if_pos c, List.mem_cons]
      constructor
      · rintro (h | h)
        · exact .inl h
        · exact .inr (.inr h)
      · rintro (h | h | h)
        · exact .inl h
        · exact .inl (h ▸ c)
        · exact .inr h
    · rw [if_neg c, List.mem_append, List.mem_singleton, List.mem_cons, or_assoc]
theorem insN_len (l f : List (Option Str)) : (l.foldl insN f).length ≤ f.length + l.length := by
  induction l generalizing f with
  | nil => exact Nat.le_refl _
  | cons z l ih =>
    have h1 := ih (insN f z)
    have h2 : (insN f z).length ≤ f.length + 1 := by
      unfold insN
      split
      · exact Nat.le_succ _
      · rw [List.length_append]; exact Nat.le_refl _
    show (l.foldl insN (insN f z)).length ≤ f.length + (l.length + 1)
    omega
/-- pairs of an "of" and its new name, as a dict -/
def rhoD (ps : List (Nat × Str)) : List (Key × V) := ps.map fun (p : Nat × Str) => (Sum.inl (p.1 : Int), V.str p.2)
def rho (ps : List (Nat × Str)) (i : Nat) : Option Str := ps.lookup i
theorem rhoD_val (ps : List (Nat × Str)) (i : Nat) : valV (rhoD ps) (Sum.inl (i : Int) : Key) = (rho ps i).map V.str := by
  induction ps with
  | nil => rfl
  | cons p ps ih =>
    obtain ⟨j, y⟩ := p
    show valV ((Sum.inl (j : Int), V.str y) :: rhoD ps) _ = (((j, y) :: ps).lookup i).map V.str
    by_cases c : j = i
    · subst c
      rw [valV_pos rfl, List.lookup_cons_self]
      rfl
    · rw [valV_neg (fun e => c (by have := Sum.inl.inj e; omega)), ih]
      show (rho ps i).map V.str = (match i == j with | true => some y | false => ps.lookup i).map V.str
      rw [show (i == j) = false by simpa using fun e => c e.symm]
      rfl
namespace Wr
/-- which "of"s are told anew, and how: a function of the two and of what goes -/
def stepA (w : Wr) (l : List Nat) (g : Nat) : List Nat := l ++ (w.ix g).takeWhile fun i => decide (i ∉ l)
def asL (w : Wr) (gs : List Nat) : List Nat := gs.foldl (stepA w) []
def catL (w a : Wr) (gs : List Nat) : List Nat := (asL w gs).filter fun i => decide (w.nmAt i ∈ a.fr)
def usedL (w a : Wr) : List (Option Str) := ((w.subs ++ a.subs).map nvO).foldl insN []
def catPs (w a : Wr) (gs : List Nat) : List (Nat × Str) := (catL w a gs).zip ((nwL (usedL w a) ((catL w a gs).length + (usedL w a).length)).take (catL w a gs).length)
end Wr
/-- what names_for_catching promises -/
def spCatch (C : Addr) : Sp := fun vs H Q _ => ∃ (l gd t : Addr) (w a : Wr) (gs : List Nat), vs = [.ref l, .ref gd, .ref t] ∧ LayAt C H l w ∧ LayAt C H t a ∧ w.sg ≤ 2000 ∧ a.sg ≤ 2000 ∧ w.all okN = true ∧ a.all okN = true ∧ H gd = some (.dK (keysB gs)) ∧ gs.length ≤ 2000 ∧ (∀ g ∈ gs, g < w.sg) ∧
  ∀ (d : Addr) (ps : List (Nat × Str)) (H' : Hp), Same H H' → H' d = some (.dK (rhoD ps)) → ps.length ≤ 2000 → ps = Wr.catPs w a gs → (gs = [] → ps = []) → Wr.New (rho ps) (w.nms ++ a.nms) → (∀ p ∈ ps, okN p.2 = true) → (∀ g ∈ gs, ∀ x i, (x, i) ∈ w.env g → Wr.nu (rho ps) i x ∉ a.fr) → Q (.ref d) H'
end TG
/-! what put builds: a row of pairs, and which writing it is -/
namespace TG
open PySem PySem.Spec L2
open PyProof.Rows hiding St
namespace Wr
/-- as ren, a value in the place of what is put in -/
def renT (ρ : Nat → Option Str) (nam : Str) (pv : V) : Wr → Nat → List (Str × Nat) → Tr
  | nm z, _, e => .lf (match find z e with
    | none => if z = nam then pv else .str z
    | some j => .str (nu ρ j z))
  | of x b, o, e => .of (nu ρ o x) (renT ρ nam pv b (o + 1) ((x, o) :: e))
  | to a b, o, e => .to (renT ρ nam pv a (o + 1) e) (renT ρ nam pv b (o + 1 + a.sg) e)
/-- one pair of it -/
def entR (ρ : Nat → Option Str) (nam : Str) (pv : V) : Wr → List (Str × Nat) → Nat → V × V
  | nm z, l, _ => (.str "name", match find z l with
    | none => if z = nam then pv else .str z
    | some j => .str (nu ρ j z))
  | of x _, _, k => (.str "of", .str (nu ρ k x))
  | to _ _, _, _ => (.str "to", .non)
theorem renT_sz (ρ : Nat → Option Str) (nam : Str) (pv : V) : ∀ (w : Wr) (o : Nat) (e : List (Str × Nat)), (renT ρ nam pv w o e).sz = w.sg
  | nm _, _, _ => rfl
  | of x b, o, e => congrArg (· + 1) (renT_sz ρ nam pv b (o + 1) ((x, o) :: e))
  | to a b, o, e => by
    show (renT ρ nam pv a _ e).sz + (renT ρ nam pv b _ e).sz + 1 = _
    rw [renT_sz ρ nam pv a, renT_sz ρ nam pv b]
    rfl
theorem renT_ents (ρ : Nat → Option Str) (nam : Str) (pv : V) : ∀ (w : Wr) (o : Nat) (e : List (Str × Nat)), (renT ρ nam pv w o e).ents = ((w.subs.zip (w.envs o e)).zipIdx o).map fun p => entR ρ nam pv p.1.1 p.1.2 p.2
  | nm _, _, _ => rfl
  | of x b, o, e => by
    show _ :: (renT ρ nam pv b (o + 1) ((x, o) :: e)).ents = _
    rw [renT_ents ρ nam pv b]
    rfl
  | to a b, o, e => by
    show _ :: ((renT ρ nam pv a (o + 1) e).ents ++ (renT ρ nam pv b (o + 1 + a.sg) e).ents) = _
    rw [renT_ents ρ nam pv a, renT_ents ρ nam pv b, ← List.map_append]
    show _ = List.map _ (((to a b).subs.zip ((to a b).envs o e)).zipIdx o)
    have e1 : ((to a b).subs.zip ((to a b).envs o e)) = (to a b, e) :: ((a.subs.zip (a.envs (o + 1) e)) ++ (b.subs.zip (b.envs (o + 1 + a.sg) e))) := by
      show (_ :: (a.subs ++ b.subs)).zip (e :: (a.envs (o + 1) e ++ b.envs (o + 1 + a.sg) e)) = _
      rw [List.zip_cons_cons, List.zip_append (by rw [subs_len, envs_len])]
    rw [e1, List.zipIdx_cons, List.map_cons, List.zipIdx_append]
    have e2 : (a.subs.zip (a.envs (o + 1) e)).length = a.sg := by rw [List.length_zip, subs_len, envs_len, Nat.min_self]
    rw [e2]
    rfl
theorem renT_at {ρ : Nat → Option Str} {nam : Str} {pv : V} {w s : Wr} {i : Nat} (h : w.subs[i]? = some s) : (renT ρ nam pv w 0 []).ents[i]? = some (entR ρ nam pv s (w.env i) i) := by
  have h2 : (w.subs.zip (w.envs 0 []))[i]? = some (s, w.env i) := List.getElem?_zip_eq_some.mpr ⟨h, env_eq (subs_lt h)⟩
  rw [renT_ents, List.getElem?_map, List.getElem?_zipIdx, h2]
  show some (entR ρ nam pv s (w.env i) (0 + i)) = _
  rw [Nat.zero_add]
theorem renT_tw {ρ : Nat → Option Str} {nam : Str} {pv : V} {t : Wr} {H : Hp} (hp : WA H pv t) : ∀ (w : Wr) (o : Nat) (e : List (Str × Nat)), TW H (renT ρ nam pv w o e) (ren ρ nam t w o e)
  | nm z, o, e => by
    show TW H (.lf (match find z e with | none => if z = nam then pv else .str z | some j => .str (nu ρ j z))) (match find z e with | none => if z = nam then t else nm z | some j => nm (nu ρ j z))
    cases find z e with
    | none =>
      by_cases c : z = nam
      · dsimp only
        rw [if_pos c, if_pos c]
        exact .lf hp
      · dsimp only
        rw [if_neg c, if_neg c]
        exact .lf (.nm z)
    | some j => exact .lf (.nm _)
  | of x b, o, e => .of (renT_tw hp b _ _)
  | to a b, o, e => .to (renT_tw hp a _ _) (renT_tw hp b _ _)
theorem ren_ok {ρ : Nat → Option Str} {nam : Str} {t : Wr} (hr : ∀ j y, ρ j = some y → okN y = true) (ht : t.all okN = true) : ∀ (w : Wr) (o : Nat) (e : List (Str × Nat)), w.all okN = true → (ren ρ nam t w o e).all okN = true := by
  have nuok : ∀ j x, okN x = true → okN (nu ρ j x) = true := by
    intro j x hx
    unfold nu
    cases q : ρ j with
    | none => exact hx
    | some y => exact hr j y q
  intro w
  induction w with
  | nm z =>
    intro o e hw
    have hw : okN z = true := hw
    show (match find z e with | none => if z = nam then t else nm z | some j => nm (nu ρ j z)).all okN = true
    cases find z e with
    | none =>
      dsimp only
      by_cases c : z = nam
      · rw [if_pos c]; exact ht
      · rw [if_neg c]; exact hw
    | some j => exact nuok j z hw
  | of x b ih =>
    intro o e hw
    have hw : (okN x && b.all okN) = true := hw
    rw [Bool.and_eq_true] at hw
    show (okN (nu ρ o x) && (ren ρ nam t b _ _).all okN) = true
    rw [nuok o x hw.1, ih _ _ hw.2]
    rfl
  | to a b i1 i2 =>
    intro o e hw
    have hw : (a.all okN && b.all okN) = true := hw
    rw [Bool.and_eq_true] at hw
    show ((ren ρ nam t a _ _).all okN && (ren ρ nam t b _ _).all okN) = true
    rw [i1 _ _ hw.1, i2 _ _ hw.2]
    rfl
theorem subs_nms : ∀ {w s : Wr} {z : Str}, s ∈ w.subs → s.nvO = some z → z ∈ w.nms
  | nm y, s, z, h, e => by
    rw [List.mem_singleton.mp h] at e
    cases e
    exact List.mem_singleton_self _
  | of x b, s, z, h, e => by
    rcases List.mem_cons.mp h with rfl | h
    · cases e; exact List.mem_cons_self
    · exact List.mem_cons_of_mem _ (subs_nms h e)
  | to a b, s, z, h, e => by
    rcases List.mem_cons.mp h with rfl | h
    · cases e
    · rcases List.mem_append.mp h with h | h
      · exact List.mem_append_left _ (subs_nms h e)
      · exact List.mem_append_right _ (subs_nms h e)
/-- at which signs something is put in -/
def goneL (w : Wr) (nam : Str) : List Nat := w.frIx.filter fun i => decide (w.nmAt i = nam)
theorem gone_nil {w : Wr} {nam : Str} (h : nam ∉ w.nms) : w.goneL nam = [] := by
  unfold goneL
  refine List.filter_eq_nil_iff.mpr fun i hi => ?_
  obtain ⟨z, hz, _, hn⟩ := frIx_nm hi
  intro e
  have e := of_decide_eq_true e
  refine h (e ▸ hn ▸ ?_)
  exact subs_nms (List.mem_of_getElem? hz) rfl
theorem gone_iff {w : Wr} {nam z : Str} {i : Nat} (h : w.subs[i]? = some (nm z)) : i ∈ w.goneL nam ↔ find z (w.env i) = none ∧ z = nam := by
  have hn : w.nmAt i = z := by unfold nmAt; rw [h]
  unfold goneL
  rw [List.mem_filter, hn, decide_eq_true_eq, frIx_eq, List.mem_filter, List.mem_range]
  have hp : frP w i = decide (find z (w.env i) = none) := by unfold frP; rw [h]
  rw [hp, decide_eq_true_eq]
  exact ⟨fun q => ⟨q.1.2, q.2⟩, fun q => ⟨⟨subs_lt h, q.1⟩, q.2⟩⟩
theorem gone_not {w s : Wr} {nam : Str} {i : Nat} (h : w.subs[i]? = some s) (k : ∀ z, s ≠ nm z) : i ∉ w.goneL nam := by
  intro hm
  obtain ⟨z, hz, _⟩ := frIx_nm (List.mem_filter.mp hm).1
  rw [h] at hz
  exact k z (Option.some.inj hz)
/-- counted outwards it is what must be -/
theorem put_cnt {w a : Wr} {nam : Str} {ρ : Nat → Option Str} (N : New ρ (w.nms ++ a.nms)) (hz : w.goneL nam = [] → ρ = fun _ => none) (cover : ∀ g ∈ w.goneL nam, ∀ x i, (x, i) ∈ w.env g → nu ρ i x ∉ a.fr) :
    (ren ρ nam a w 0 []).cnt [] = (w.cnt []).sub nam (a.cnt []) := by
  have h2 : ∀ i x b l, w.subs[i]? = some (of x b) → (w.envs 0 [])[i]? = some l → nam ∈ b.frL (x :: l.map (·.1)) → nu ρ (0 + i) x ∉ a.fr := by
    intro i x b l hs hl hm
    rw [env_eq (subs_lt hs)] at hl
    cases hl
    obtain ⟨g, hg, hn, hx⟩ := gone_around hs hm
    rw [Nat.zero_add]
    exact cover g (List.mem_filter.mpr ⟨hg, decide_eq_true hn⟩) x i hx
  by_cases c : nam ∈ w.nms
  · exact ren_cnt N (List.mem_append_left _ c) w 0 [] (fun z hz => List.mem_append_left _ hz) List.nodup_nil (fun p hp => absurd hp List.not_mem_nil) (fun z _ _ => List.not_mem_nil) h2
  · have e := hz (gone_nil c)
    have N2 : New ρ (nam :: w.nms) := ⟨fun j y h => by (rw [e] at h; cases h), fun j k y h _ => by (rw [e] at h; cases h)⟩
    exact ren_cnt N2 List.mem_cons_self w 0 [] (fun z hz => List.mem_cons_of_mem _ hz) List.nodup_nil (fun p hp => absurd hp List.not_mem_nil) (fun z _ _ => List.not_mem_nil) h2
/-- what put makes: a function of the two writings and the name -/
def putF (w : Wr) (x : Str) (a : Wr) : Wr := ren (rho (catPs w a (w.goneL x))) x a w 0 []
end Wr
/-- as spPut, and which writing it is: the same for equal writings -/
def spPutF (K : PySem.W.Frag) : Sp := fun vs H Q _ => ∃ (v u : V) (x : Str) (d e : PyData) (w a : Wr), vs = [v, .str x, u] ∧ Dp K H v d ∧ Tells d w ∧ w.all okN = true ∧ w.sg ≤ 2000 ∧ okN x = true ∧ Dp K H u e ∧ Tells e a ∧ a.all okN = true ∧ a.sg ≤ 2000 ∧
  ∀ (v' : V) (w' : Wr) (H' : Hp), Same H H' → WA H' v' w' → w'.all okN = true → w'.cnt [] = (w.cnt []).sub x (a.cnt []) → w' = w.putF x a → Q v' H'
theorem putF_put {K : PySem.W.Frag} (vs : List V) (H : Hp) (Q : VK) (E : XK) (h : spPut K vs H Q E) : spPutF K vs H Q E := by
  obtain ⟨v, u, x, d, e, w, a, e1, h1, h2, h3, h4, _, h5, h6, h7, h8, h9, _, _, _, q⟩ := h
  exact ⟨v, u, x, d, e, w, a, e1, h1, h2, h3, h4, h5, h6, h7, h8, h9, fun v' w' H' s hw ok c _ => q v' w' H' s hw ok c⟩
end TG
set_option maxHeartbeats 400000
/-! writings as data, compared and shown -/
namespace TG
open PySem PySem.Spec L2
open PyProof.Rows hiding St
theorem wd_depth : ∀ w : Wr, w.d.depth + 1 = w.ly
  | .nm _ => rfl
  | .of x b => by
    have h := wd_depth b
    show max 0 (max 0 (max b.d.depth 0)) + 1 + 1 = b.ly + 1
    omega
  | .to a b => by
    have h1 := wd_depth a
    have h2 := wd_depth b
    show max 0 (max a.d.depth (max b.d.depth 0)) + 1 + 1 = max a.ly b.ly + 1
    omega
theorem wd_lay : ∀ {w : Wr}, w.all okN = true → w.d.canLay0 = true
  | .nm z, h => Bt.ok_lay h
  | .of x b, h => by
    obtain ⟨h1, h2⟩ := Bool.and_eq_true_iff.mp (show (okN x && b.all okN) = true from h)
    show (PyData.canLay0 (.str "of") && (PyData.canLay0 (.str x) && (b.d.canLay0 && PyData.canLayAll0 []))) = true
    rw [show PyData.canLay0 (.str "of") = true by decide +kernel, Bt.ok_lay h1, wd_lay h2]
    rfl
  | .to a b, h => by
    obtain ⟨h1, h2⟩ := Bool.and_eq_true_iff.mp (show (a.all okN && b.all okN) = true from h)
    show (PyData.canLay0 (.str "to") && (a.d.canLay0 && (b.d.canLay0 && PyData.canLayAll0 []))) = true
    rw [show PyData.canLay0 (.str "to") = true by decide +kernel, wd_lay h1, wd_lay h2]
    rfl
theorem wd_shaped {w : Wr} (h : w.all okN = true) (l : w.ly ≤ 64) : SeqAt.shaped w.d = true := by
  have := wd_depth w
  unfold SeqAt.shaped
  rw [wd_lay h, decide_eq_true (by omega : w.d.depth ≤ 64)]
  rfl
theorem wd_self : ∀ w : Wr, PyData.eqv w.d w.d = true
  | .nm z => by show (z == z) = true; exact beq_self_eq_true z
  | .of x b => by
    show ((("of" : Str) == "of") && ((x == x) && (PyData.eqv b.d b.d && true))) = true
    rw [wd_self b, beq_self_eq_true, beq_self_eq_true]
    rfl
  | .to a b => by
    show ((("to" : Str) == "to") && (PyData.eqv a.d a.d && (PyData.eqv b.d b.d && true))) = true
    rw [wd_self a, wd_self b, beq_self_eq_true]
    rfl
theorem wd_showable : ∀ w : Wr, w.d.showable = true
  | .nm z => rfl
  | .of x b => by
    show (true && (true && (b.d.showable && true))) = true
    rw [wd_showable b]
    rfl
  | .to a b => by
    show (true && (a.d.showable && (b.d.showable && true))) = true
    rw [wd_showable a, wd_showable b]
    rfl
theorem wd_noDict : ∀ w : Wr, w.d.hasDict = false
  | .nm z => rfl
  | .of x b => by
    show (false || (false || (b.d.hasDict || false))) = false
    rw [wd_noDict b]
    rfl
  | .to a b => by
    show (false || (a.d.hasDict || (b.d.hasDict || false))) = false
    rw [wd_noDict a, wd_noDict b]
    rfl
theorem wd_fits {w : Wr} (h : w.all okN = true) (hs : w.sg ≤ 10000) : w.d.shown.length ≤ sizeLine := by
  have key : ∀ {w : Wr}, w.all okN = true → w.d.leavesShort 8 = true ∧ w.d.bulk ≤ 40 * w.sg := by
    intro w
    have leaf : ∀ {z : Str}, okN z = true → PyData.leavesShort 8 (.str z) = true ∧ PyData.bulk (.str z) ≤ 13 := fun {z} h => by
      obtain ⟨h1, h2⟩ := nms_short (l := [z]) (fun y hy => by rw [List.mem_singleton.mp hy]; exact h)
      refine ⟨(Bool.and_eq_true_iff.mp (show (PyData.leavesShort 8 (.str z) && true) = true from h1)).1, ?_⟩
      obtain ⟨z1, _⟩ := ok_signs h
      have h4 : z.cps.size ≤ 12 := z1
      show z.cps.size ≤ 13
      omega
    induction w with
    | nm z =>
      intro h
      obtain ⟨a, b⟩ := leaf (z := z) h
      refine ⟨a, ?_⟩
      show PyData.bulk (.str z) ≤ 40 * 1
      omega
    | of x b ih =>
      intro h
      obtain ⟨h1, h2⟩ := Bool.and_eq_true_iff.mp (show (okN x && b.all okN) = true from h)
      obtain ⟨a1, a2⟩ := leaf h1
      obtain ⟨b1, b2⟩ := ih h2
      refine ⟨?_, ?_⟩
      · show (PyData.leavesShort 8 (.str "of") && (PyData.leavesShort 8 (.str x) && (b.d.leavesShort 8 && true))) = true
        rw [a1, b1, show PyData.leavesShort 8 (.str "of") = true by decide +kernel]
        rfl
      · have e := show PyData.bulk (.str "of") = 2 by decide +kernel
        have g : (Wr.of x b).d.bulk = PyData.bulk (.str "of") + 1 + (PyData.bulk (.str x) + 1 + (b.d.bulk + 1 + 0)) := rfl
        show (Wr.of x b).d.bulk ≤ 40 * (b.sg + 1)
        omega
    | to a b i1 i2 =>
      intro h
      obtain ⟨h1, h2⟩ := Bool.and_eq_true_iff.mp (show (a.all okN && b.all okN) = true from h)
      obtain ⟨a1, a2⟩ := i1 h1
      obtain ⟨b1, b2⟩ := i2 h2
      refine ⟨?_, ?_⟩
      · show (PyData.leavesShort 8 (.str "to") && (a.d.leavesShort 8 && (b.d.leavesShort 8 && true))) = true
        rw [a1, b1, show PyData.leavesShort 8 (.str "to") = true by decide +kernel]
        rfl
      · have e := show PyData.bulk (.str "to") = 2 by decide +kernel
        have g : (Wr.to a b).d.bulk = PyData.bulk (.str "to") + 1 + (a.d.bulk + 1 + (b.d.bulk + 1 + 0)) := rfl
        show (Wr.to a b).d.bulk ≤ 40 * (a.sg + b.sg + 1)
        omega
  obtain ⟨h1, h2⟩ := key h
  exact PyData.shown_fits_bulk (B := 8) (by decide) (by decide) h1 (by omega)
/-- equality of data 150 layers deep -/
def rEqD2 (K : PySem.W.Frag) : R2 := fun x y H Q => ∃ d e, Dp K H x d ∧ Dp K H y e ∧ d.canLay0 = true ∧ e.canLay0 = true ∧ d.depth ≤ 150 ∧ Q (.bl (PyData.eqv d e)) H
section
variable {X : Cx}
theorem op_eqD2 (hu : X.A.units + 151 < cLine) : OpR X (compareOp .Eq) (rEqD2 X.K) := by
  intro pins s σ H x y v u Q I rx ry h
  obtain ⟨d, e, hd, he, sd, se, dd, q⟩ := h
  obtain ⟨as, r1⟩ := Dp.reads I d x v hd rx
  obtain ⟨bs, r2⟩ := Dp.reads I e y u he ry
  have h2 : min d.depth e.depth ≤ d.depth := Nat.min_le_left _ _
  exact SeqAt.compareEq_reads r1 r2 sd se (by omega) ⟨.bl _, H, I, rfl, q⟩
end
end TG
/-! errors as values: made by place or by name, their fields read, isinstance asked of them -/
namespace PySem
namespace TAX
open PySem.W PySem.Calls PyProof.Rows PySem.HandSPX Builtin Builtin.ObjectAttr
section
variable {prog : Program} {w : World} {M : Model} {A : Around} {E : Value → Shared → Prop} {R : Result → Shared → Prop} {h : Heap} {g : Array GenState} {d : Drawn} {t : Nat} {os : OsState}
variable {nm q : Str} {C N : Addr} {bs bm bmB : List Value} {hdct : Bool} {sn : List Str} {sub : List Value} {ab : Bool} {col : Option Bool} {dd : Option Addr} {k0 k1 k2 k3 k5 : Option Value} {B newId initId : String}
theorem chk_new_kw (F : ExcBaseFacts B newId initId bmB) (hT : ∀ X : String, bm.contains (.type X) = bmB.contains (.type X)) {us : List Value} {kw : List (Str × Value)} {Q : Unit → Shared → Prop}
    (hC : h.get? C = some (excClassObj nm q C N bs bm hdct sn sub ab col dd k0 k1 k2 k3 k5 newId)) (hq : Q () ⟨h, g, d, t, os⟩) :
    wpAny M A (checkBuiltinCall newId ⟨.ref C :: us, kw⟩) Q E ⟨h, g, d, t, os⟩ := by
  have hc1 : (Value.ref C :: bm).contains (.type B) = true := by rw [List.contains_cons, hT, F.hasB, Bool.or_true]
  have hs1 := F.noStar
  simp only [checkBuiltinCall, F.newKind, F.newSplit, F.newRow]
  repeat (first | with_reducible refine wpAny_loadPart_at hC ?_ | (with_reducible refine wpAny_isSubtype_exc hC ?_; rw [hc1]) | refine wpAny_staticBase_exc hC ?_ | refine wpAny_madeBy_exc hC ?_ | simp only [bne_self_eq_false, Bool.false_eq_true, if_false] | wp_step)
  exact hq
theorem new_kw (F : ExcBaseFacts B newId initId bmB) (hT : ∀ X : String, bm.contains (.type X) = bmB.contains (.type X)) {us : List Value} {kw : List (Str × Value)}
    (hC : h.get? C = some (excClassObj nm q C N bs bm hdct sn sub ab col dd k0 k1 k2 k3 k5 newId)) (hl : us.length ≤ sizeLine)
    (hq : R (.ok (.ret (.ref (h.objs.size + 1)))) ⟨(h.push (W.kdv_tup us)).push (excO C h.objs.size), g, d, t, os⟩) :
    codeAny (model prog w) A (.builtin newId ⟨.ref C :: us, kw⟩) R ⟨h, g, d, t, os⟩ := by
  have he1 := F.ends
  have h1 : (Value.ref C :: bm).contains (.type B) = true := by rw [List.contains_cons, hT, F.hasB, Bool.or_true]
  have h2 : (Value.ref C :: bm).contains (.type "AttributeError") = false := by rw [List.contains_cons, hT, F.noAttr]; rfl
  have h3 : (Value.ref C :: bm).contains (.type "NameError") = false := by rw [List.contains_cons, hT, F.noName]; rfl
  refine codeAny_builtinAt F.entry ?_
  unfold Builtin.«BaseException.__new__»
  refine wpAt_bind ?_
  show wpAt _ _ _ (stack >>= _) _ _ _
  refine wpAt_bind (wpAt_stack fun p below => wpAt_of_wpAny ?_)
  wp_walk
  refine wpAt_of_wpAny ?_
  rw [F.owner]
  repeat (first | with_reducible refine wpAny_madeHere_exc F.canon hC ?_ | with_reducible refine wpAny_loadPart_at hC ?_ | (with_reducible refine wpAny_isSubtype_exc hC ?_; first | rw [h1] | rw [h2] | rw [h3]) | wp_step)
  show R _ _
  rw [Heap.size_push]
  exact hq
theorem tcall_kw (F : ExcBaseFacts B newId initId bmB) (hT : ∀ X : String, bm.contains (.type X) = bmB.contains (.type X)) {us : List Value} {kw : List (Str × Value)} {fI : Addr} {Q : Fin → Shared → Prop}
    (hC : h.get? C = some (excClassObj nm q C N bs bm hdct sn sub ab col dd k0 k1 k2 k3 k5 newId))
    (hi : W.Looks (model prog w) h (typeLookup (.ref C) "__init__") (some (.ref fI))) (hb : ∀ self, W.Looks (model prog w) h (bindSpecial (.ref fI) self) (.ref fI, [self])) (hl : us.length ≤ sizeLine)
    (hq : codeAny (model prog w) A (.call (.ref fI) ⟨.ref (h.objs.size + 1) :: us, kw⟩)
      (fun r s' => match r with | .ok (.ret v) => v = .none ∧ Q (.done (.ret (.ref (h.objs.size + 1)))) s' | .ok _ => False | .error e => E e s')
      ⟨(h.push (W.kdv_tup us)).push (excO C h.objs.size), g, d, t, os⟩) :
    wpAny (model prog w) A (Builtin.«type.__call__» ⟨.ref C :: us, kw⟩) Q E ⟨h, g, d, t, os⟩ := by
  repeat (first | with_reducible refine wpAny_loadPart_at hC ?_ | with_reducible refine wpAny_madeBy_exc hC ?_ | wp_step)
  refine codeAny_call_builtin_code (Code.quiet_builtin _ F.quiet) (chk_new_kw F hT hC ?_)
  refine new_kw F hT hC hl ?_
  show wpAny _ _ _ _ _ _
  have kk : ∀ b o, h.get? b = some o → ((h.push (W.kdv_tup us)).push (excO C h.objs.size)).get? b = some o := fun b o e => Heap.get?_push_of_some _ (Heap.get?_push_of_some _ e)
  have hC1 := kk _ _ hC
  have hg : ((h.push (W.kdv_tup us)).push (excO C h.objs.size)).get? (h.objs.size + 1) = some (excO C h.objs.size) := by heap_get
  have hCC : (Value.ref C :: bm).contains (.ref C) = true := by simp
  have j1 := hi.keeps kk
  have j2 := (hb (.ref (h.objs.size + 1))).keeps kk
  unfold isInstance
  repeat (first | with_reducible refine wpAny_loadPart_at hg ?_ | (with_reducible refine wpAny_isSubtype_exc hC1 ?_; rw [hCC]) | wp_step)
  show wpAny _ _ (typeLookup (.ref C) _) _ _ _
  refine j1.at ?_
  refine wpAny_holding (wpAny_bind (j2.at ?_))
  refine wpAny_bind (wpAny_call (codeAny_mono hq fun r s' z => ?_))
  rcases r with e | (v | _ | _ | _) <;> first | exact z | exact z.elim | skip
  obtain ⟨rfl, z⟩ := z
  first
    | exact wpAny_pure (wpAny_pure z)
    | (wp_walk; exact z)
theorem call_kw (F : ExcBaseFacts B newId initId bmB) (hT : ∀ X : String, bm.contains (.type X) = bmB.contains (.type X)) {us : List Value} {kw : List (Str × Value)} {fI : Addr}
    (hC : h.get? C = some (excClassObj nm q C N bs bm hdct sn sub ab col dd k0 k1 k2 k3 k5 newId))
    (hi : W.Looks (model prog w) h (typeLookup (.ref C) "__init__") (some (.ref fI))) (hb : ∀ self, W.Looks (model prog w) h (bindSpecial (.ref fI) self) (.ref fI, [self])) (hl : us.length ≤ sizeLine)
    (hq : codeAny (model prog w) (A.under (.builtin "type.__call__" ⟨.ref C :: us, kw⟩)) (.call (.ref fI) ⟨.ref (h.objs.size + 1) :: us, kw⟩) (W.InitBack (h.objs.size + 1) R)
      ⟨(h.push (W.kdv_tup us)).push (excO C h.objs.size), g, d, t, os⟩) :
    codeAny (model prog w) A (.call (.ref C) ⟨us, kw⟩) R ⟨h, g, d, t, os⟩ := by
  have z1 := tc_lookup
  have z2 := tc_bind (.ref C)
  have hTy : (⟨h, g, d, t, os⟩ : Shared).TypeIs (.ref C) "type" := ⟨_, hC, rfl⟩
  refine codeAny_of_tree ?_
  show wpAny _ _ (callAny (.ref C) _) _ _ _
  repeat (any_goals (first | assumption | with_reducible refine wpAny_loadPart_at hC ?_ | wp_step))
  refine ⟨rfl, ?_⟩
  refine codeAny_call_builtin_at (Code.quiet_builtin _ (by decide +kernel)) entry_typeCall (wpAny_check_type_call_sub hC (tcall_kw F hT hC hi hb hl ?_))
  refine codeAny_mono hq fun r s' z => ?_
  rcases r with e | (v | _ | _ | _) <;> exact z
end
end TAX
end PySem
namespace TA
open PySem PySem.Spec L2
open PyProof.Rows hiding St
/-- C(e, .., k = v, ..), an error class with an own __init__: the new error itself -/
def tMkX (C : Addr) (n m : Nat) (sp : Sp) (gV : List V → List V → List V) (t tk : TA) : TE := fun σ H Q => t σ H fun vs H1 => tk σ H1 fun zs H2 => vs.length = n ∧ zs.length = m ∧
  ∀ a, H2 a = none → sp (gV (.ref a :: vs) zs) (upd H2 a (exo a C none)) (fun v H3 => v = .non ∧ Q (.ref a) H3) E0
section
variable {X : Cx} {k n : Nat} {f C : Addr} {fd : FuncData} {ps ks : List Str} {sp : Sp} {x : Str} {p pos : Pos} {e : Expr} {es : List Expr} {kws : List Keyword} {t tk : TA} {g : List Value → List Value → List Value} {gV : List V → List V → List V}
theorem run_mkx {pins : List (Addr × Obj)} {σ : St} {H : Hp} {s : Shared} {Q : VK} {us ws : List Value} {vs zs : List V} (T : OexC X.K C) (iC : PySem.W.findIn X.K (.ref C) "__init__" = some (some (.ref f))) (tI : PySem.W.typeIn X.K (.ref f) = some (.type "function"))
    (F : FnOk X.prog X.w X.K X.mg X.base CX0 k f fd ps sp) (hr : Room (k + 1) X.A) (hb : KBn X.K fd ps (n + 1) ks g gV) (hn : n ≤ 1000) (I : Inv X pins σ H s) (r : Vals vs us) (rz : Vals zs ws) (l1 : vs.length = n) (l2 : zs.length = ks.length)
    (h : ∀ a, H a = none → sp (gV (.ref a :: vs) zs) (upd H a (exo a C none)) (fun v H2 => v = .non ∧ Q (.ref a) H2) E0) :
    wpAny (model X.prog X.w) X.A (call (.ref C) us (ks.zip ws)) (EP X pins σ Q) X.xe s := by
  obtain ⟨nm, q, N, bs, bm, sn, sub, ab, col, dd, k0, k1, k2, k3, k5, hC, hbm⟩ := T.cls
  obtain ⟨hp, gg, dr, tk, os⟩ := s
  have hsz : hp.objs.size ≤ hp.objs.size + 1 := Nat.le_succ _
  have hq := h (hp.objs.size + 1) (I.hok.fresh hsz)
  have kk : ∀ b o, hp.get? b = some o → ((hp.push (PySem.W.kdv_tup us)).push (PySem.HandSPX.excO C hp.objs.size)).get? b = some o := fun b o e => Heap.get?_push_of_some _ (Heap.get?_push_of_some _ e)
  have hget : ((hp.push (PySem.W.kdv_tup us)).push (PySem.HandSPX.excO C hp.objs.size)).get? (hp.objs.size + 1) = some (PySem.HandSPX.excO C hp.objs.size) := by heap_get
  have I2 : Inv X pins σ (upd H (hp.objs.size + 1) (exo (hp.objs.size + 1) C none)) ⟨(hp.push (PySem.W.kdv_tup us)).push (PySem.HandSPX.excO C hp.objs.size), gg, dr, tk, os⟩ :=
    I.laid (t' := tk) (a := hp.objs.size + 1) (o := exo (hp.objs.size + 1) C none) kk hsz (exo_ok hget)
  have r1 : Vals (V.ref (hp.objs.size + 1) :: vs) (Value.ref (hp.objs.size + 1) :: us) := .cons rfl r
  have r2 := hb.rel r1 rz
  have n1 : (Value.ref (hp.objs.size + 1) :: us).length = n + 1 := by
    rw [List.length_cons, ← r.length, l1]
  have hus : us.length ≤ sizeLine := by
    rw [← Paired.length r, sizeLine_eq]
    omega
  refine wpAny_call (PySem.TAX.call_kw PySem.F.excBase_ValueError (fun Y => PySem.HandSPX.refsVE_contains Y bm hbm) (I.kIn _ _ hC) (PySem.W.looks_findIn I.kIn iC) (fun self => PySem.W.bind_fn I.kIn self tI) hus
    (codeAny_mono (F.run _ X.stack _ _ ⟨Value.ref (hp.objs.size + 1) :: us, ks.zip ws⟩ (g (Value.ref (hp.objs.size + 1) :: us) ws) _ _ E0 (hr.make C us (ks.zip ws)) (I2.env0.make C us (ks.zip ws))
      (hb.to _ (Value.ref (hp.objs.size + 1) :: us) ws I2.kIn n1 (rz.length.symm.trans l2)) r2 hq) fun r s' hq' => ?_))
  cases r with
  | error er => exact False.elim hq'
  | ok fl =>
    cases fl with
    | ret u =>
      obtain ⟨v, H', I3, rv, ev, q3⟩ := I2.after hq'
      subst ev
      exact ⟨rv, ⟨V.ref (hp.objs.size + 1), H', I3, rfl, q3⟩⟩
    | next => exact False.elim hq'
    | brk => exact False.elim hq'
    | cont => exact False.elim hq'
/-- C(k = v, ..) -/
theorem pe_mkx0 (T : OexC X.K C) (iC : PySem.W.findIn X.K (.ref C) "__init__" = some (some (.ref f))) (tI : PySem.W.typeIn X.K (.ref f) = some (.type "function")) (F : FnOk X.prog X.w X.K X.mg X.base CX0 k f fd ps sp) (hr : Room (k + 1) X.A) (hg : Gl X x) (hm : X.mg x = some (.ref C))
    (hb : KBn X.K fd ps 1 ks g gV) (hkw : PK X kws tk) (hall : (backToKw pos (keywordEach kws X.env)).all (·.1.isSome) = true := by rfl) (hks : (backToKw pos (keywordEach kws X.env)).filterMap (·.1) = ks := by rfl)
    (hdb : (x == ("__debug__" : Str)) = false := by decide) (hpl : ((backTo pos (starEach [] X.env)).any (·.1) || (backToKw pos (keywordEach kws X.env)).any (·.1.isNone)) = false := by rfl) :
    PE X (.Call (.Name x p) [] kws pos) (tMkX C 0 ks.length sp gV tNil tk) := by
  refine ⟨fun pins s σ H Q I h => ?_⟩
  refine wpAny_Call_Name_kw (ld_glob I hg hm ?_ hdb)
  refine PySem.W.callWith_KW0 (h₀ := X.base) I.ok.mod.kin T.kC hall ?_ hpl
  refine thn (hkw.run pos pins s σ H _ I h) fun ws s2 ⟨zs, H2, I2, rz, l1, l2, q2⟩ => ⟨I2.kIn, ?_⟩
  rw [hks]
  exact run_mkx (us := []) (vs := []) T iC tI F hr hb (by omega) I2 .nil rz rfl l2 q2
/-- C(e, ..) -/
theorem pe_mkx (T : OexC X.K C) (iC : PySem.W.findIn X.K (.ref C) "__init__" = some (some (.ref f))) (tI : PySem.W.typeIn X.K (.ref f) = some (.type "function")) (F : FnOk X.prog X.w X.K X.mg X.base CX0 k f fd ps sp) (hr : Room (k + 1) X.A) (hg : Gl X x) (hm : X.mg x = some (.ref C))
    (hb : KBn X.K fd ps (n + 1) [] g gV) (hn : n ≤ 1000) (ha : PA X (e :: es) t) (hdb : (x == ("__debug__" : Str)) = false := by decide) (he : starEach (e :: es) X.env = (false, eval e X.env) :: starEach es X.env := by rfl)
    (hpl : (backTo pos (starEach es X.env)).any (·.1) = false := by rfl) : PE X (.Call (.Name x p) (e :: es) [] pos) (tMkX C n 0 sp gV t tNil) := by
  refine ⟨fun pins s σ H Q I h => ?_⟩
  refine wpAny_Call_Name_kw (ld_glob I hg hm ?_ hdb)
  refine PySem.W.callWith_K (h₀ := X.base) I.ok.mod.kin T.kC (thn (ha.run pos pins s σ H _ I h) fun us s1 ⟨vs, H1, I1, r, l1, l2, q⟩ => ⟨I1.kIn, ?_⟩) he hpl
  exact run_mkx (us := us) (vs := vs) (zs := []) (ws := []) (ks := []) T iC tI F hr hb hn I1 r .nil l1 rfl q
end
/-- how C's parameters bind, all given by place -/
theorem kbn_pos {K : PySem.W.Frag} {fd : FuncData} {ps : List Str} {n : Nat} (h : ∀ us : List Value, us.length = n → bindArgs fd ⟨us, []⟩ = pure (ps.zip us)) : KBn K fd ps n [] (fun us _ => us) (fun vs _ => vs) :=
  ⟨fun s us ws _ l1 _ => .of_eq (h us l1), fun r _ => r⟩
end TA
namespace PySem.W
open PySem PySem.Spec PySem.Calls PyProof.Rows
section
variable {prog : Program} {w : World} {A : Around} {E : Value → Shared → Prop} {s : Shared} {K : Frag} {x D : Addr} {ox : Obj} {od : Option Obj}
theorem ta_findcls (hd : hasDictIn K D = true) (ha : findIn K (.ref D) "__class__" = some (some (.builtin "object.__class__")))
    (hn : specialIn K (.builtin "object.__class__") "__get__" = some (some (.builtin "getset_descriptor.__get__"))) (ht : takesIn K (.builtin "object.__class__") = some true) :
    findObj K D od "__class__" = some (.bind (.builtin "getset_descriptor.__get__") (.builtin "object.__class__")) := by
  obtain ⟨cd, hc, _⟩ := any_some hd
  unfold findObj
  rw [hc, Option.bind_some, ha, Option.bind_some]
  simp [hn, ht]
/-- __class__ of an error that has its dict -/
theorem ta_class {Q : Option Value → Shared → Prop} (c : L2.ExcC K D) (X : K.In s.heap) (I : InstAt s.heap x ox D od) (h : Q (some (.ref D)) { s with toks := s.toks + 1 }) : wpAny (model prog w) A (getAttr? (.ref x) "__class__") Q E s := by
  have hf := ta_findcls (od := od) c.hd c.ha c.hn c.ht
  obtain ⟨hp, g, d, t, os⟩ := s
  have L0 := I.type (M := model prog w)
  have L1 := looks_findIn (M := model prog w) X c.hg
  have L2 := looks_findIn (M := model prog w) X c.hk
  have L3 := looks_find (M := model prog w) X I hf
  have isB : Looks (model prog w) hp (isInstance (.ref x) (.type "BaseException")) true := L0.andThen (looks_subIn X c.hs)
  have e2 : (Value.builtin "BaseException.__getattribute__" == Value.builtin "object.__getattribute__") = false := by decide +kernel
  have e1 : (onTheHeap (Value.ref D) && Value.builtin "BaseException.__getattribute__" == Value.builtin "object.__getattribute__") = false := by rw [e2]; rfl
  unfold getAttr? getAttrBy? getAttrBy
  refine wpAny_bind (wpAny_mkText (wpAny_bind (wpAny_attempt (wpAny_holding (wpAny_bind (L0.at (wpAny_bind (L1.at ?_))))))))
  show wpAny _ _ (if (onTheHeap (Value.ref D) && Value.builtin "BaseException.__getattribute__" == Value.builtin "object.__getattribute__") = true then _ else _) _ _ _
  rw [e1, if_neg Bool.false_ne_true]
  unfold getAttrByItsOwn hookBefore
  refine wpAny_bind ?_
  rw [if_pos (show onTheHeap (Value.ref D) = true from rfl)]
  refine L2.at ?_
  refine wpAny_bind (wpAny_attempt (wpAny_holding ?_))
  unfold callGetattribute
  rw [if_neg (show ¬ (false && onTheHeap (Value.builtin "BaseException.__getattribute__")) = true from Bool.false_ne_true)]
  unfold boundAndCalled
  rw [PySem.F.excAttr_ValueError.ga.bind (.ref x)]
  refine wpAny_bind (wpAny_pure ?_)
  show wpAny _ _ (call (.builtin "BaseException.__getattribute__") [.ref x, .str "__class__" t]) _ _ _
  refine wpAny_call (codeAny_call_builtin PySem.F.excAttr_ValueError.ga.plain PySem.F.entry_bexc_ga ?_)
  refine @check_slot (model prog w) _ _ ⟨hp, g, d, t + 1, os⟩ "BaseException.__getattribute__" "BaseException" "__getattribute__" (.ref x) [.str "__class__" t] [] _ (by decide +kernel) (by decide +kernel) isB (PySem.F.args_bexc_ga (.ref x) (.str "__class__" t)) ?_
  unfold Builtin.«object.__getattribute__»
  refine wpAny_bind (wpAny_of_eq (a := ((Value.ref x : Value), [Value.str "__class__" t])) (by first | rfl | (simp only [slotArgs]; rfl)) ?_)
  refine wpAny_bind (wpAny_pure (wpAny_bind (L0.at (wpAny_bind (L3.at ?_)))))
  show wpAny _ _ (holding [Value.builtin "object.__class__"] (call (.builtin "getset_descriptor.__get__") [.builtin "object.__class__", .ref x, .ref D]) >>= ret) _ _ _
  refine wpAny_bind (wpAny_holding (wpAny_call (class_get (s := ⟨hp, g, d, t + 1, os⟩) (ox := ox) (od := od) X I c.hm ?_)))
  refine wpAny_pure ?_
  show wpAny _ _ (handedOut (.ref D)) _ _ _
  rw [handedOut_of (v := .ref D) rfl]
  first
    | exact wpAny_pure (wpAny_pure h)
    | exact wpAny_pure h
    | exact wpAny_pure (wpAny_bind (wpAny_pure (wpAny_pure h)))
theorem ta_clsOut (hd : hasDictIn K D = true) : ∃ c' d' cd sl, K.lookup D = some ⟨c', d', .cls cd, sl⟩ := by
  obtain ⟨cd, hc, _⟩ := any_some hd
  unfold clsIn at hc
  split at hc
  · rename_i c' d' cd' sl' ho
    exact ⟨c', d', cd', sl', ho⟩
  · cases hc
theorem ta_kitx (c : L2.ExcC K D) : KitX K (.ref x) (.ref D) (fun h => InstAt h x ox D od) where
  ty := fun _ _ _ I => I.type
  it := fun _ _ X _ => by
    obtain ⟨c', d', cd, sl, ho⟩ := ta_clsOut c.hd
    intro A' Q' E' s' k q
    unfold isType loadHead
    exact wpAny_bind (wpAny_loadPart (k _ _ (X _ _ ho)) (wpAny_pure q))
  ne := fun h tp dd its n sl X htp => by
    obtain ⟨c', d', cd, sl', ho⟩ := ta_clsOut c.hd
    refine Bool.eq_false_iff.mpr fun q => ?_
    obtain rfl : D = tp := Value.ref.inj (beq_iff_eq.mp q)
    cases (X _ _ ho).symm.trans htp
  ca := fun X I k => ta_class c X I k
end
end PySem.W
namespace TA
open PySem PySem.Spec L2
open PyProof.Rows hiding St
/-- what is known of an error class: it is one, its objects are asked rightly -/
structure XCl (K : PySem.W.Frag) (C : Addr) : Prop where
  o : OexC K C
  i : ExcC K C
/-- an error that was made, with its fields -/
def ErrAt (H : Hp) (a C : Addr) (fs : List (Str × V)) : Prop := ∃ dd, H a = some (exo a C (some dd)) ∧ H dd = some (exd dd fs)
theorem ErrAt.keep {H H' : Hp} {a C : Addr} {fs : List (Str × V)} (h : ErrAt H a C fs) (k : ∀ b o, H b = some o → (∃ e c d, o = exo e c d) ∨ (∃ e f, o = exd e f) → H' b = some o) : ErrAt H' a C fs := by
  obtain ⟨dd, h1, h2⟩ := h
  exact ⟨dd, k _ _ h1 (.inl ⟨_, _, _, rfl⟩), k _ _ h2 (.inr ⟨_, _, rfl⟩)⟩
section
variable {X : Cx} {pins : List (Addr × Obj)} {σ : L2.St} {H : Hp} {s : Shared}
theorem err_inst {a C : Addr} {fs : List (Str × V)} (I : Inv X pins σ H s) (h : ErrAt H a C fs) : ∃ (ox od : Obj) (mA : Str → Option Value), PySem.W.InstAt s.heap a ox C (some od) ∧ (∀ n, PySem.W.lookIn n od = some (mA n)) ∧ ∀ f, RelO (fs.lookup f) (mA f) := by
  obtain ⟨dd, h1, h2⟩ := h
  obtain ⟨t1, ho⟩ := exo_at I.hok h1
  obtain ⟨mA, hns, rel⟩ := exd_at I.hok h2
  obtain ⟨od, hod, hl⟩ := lookIn_ns hns
  exact ⟨_, od, mA, ⟨ho, rfl, rfl, hod⟩, hl, rel⟩
/-- e.f -/
def tOfl (K : PySem.W.Frag) (f : Str) (te : TE) : TE := fun σ H Q => te σ H fun x H1 => ∃ (a C : Addr) (fs : List (Str × V)) (v : V), x = .ref a ∧ ErrAt H1 a C fs ∧ XCl K C ∧ PySem.W.findIn K (.ref C) f = some none ∧ fs.lookup f = some v ∧ Q v H1
theorem pe_ofl {e : Expr} {te : TE} {n : Str} {pos : Pos} (he : PE X e te) (hb : attributeBase e n X.env (eval e X.env) = eval e X.env := by rfl) : PE X (.Attribute e n pos) (tOfl X.K n te) := by
  refine ⟨fun pins s σ H Q I h => ?_⟩
  refine attr_of hb (thn (he.run pins s σ H _ I h) fun u s1 hh => ?_)
  obtain ⟨x, H1, I1, rx, a, C, fs, v, ex, ea, T, hno, l, q⟩ := hh
  subst ex
  obtain rfl : u = Value.ref a := rx
  obtain ⟨ox, od, mA, J, hl, rel⟩ := err_inst I1 ea
  obtain ⟨u, hu, ru⟩ := RelO.some_of (v := v) (o := mA n) (by rw [← l]; exact rel n)
  exact HandSPX.exc_get I1.kIn J T.i.hg T.i.hk T.i.hs (PySem.W.findObj_own T.i.hd hno rfl (by rw [hl, hu])) (handed_of ru) ⟨v, H1, I1.tok _, ru, q⟩
/-- isinstance(e, c) of an error that was made: c a class, or a tuple of classes -/
def rErr (K : PySem.W.Frag) : List V → Hp → VK → Prop := fun xs H Q => ∃ (a C : Addr) (fs : List (Str × V)) (c : V) (u : Value) (b : Bool), xs = [.ref a, c] ∧ ErrAt H a C fs ∧ XCl K C ∧ ClsV c u ∧ PySem.W.kitOne K (.ref C) u = some b ∧ Q (.bl b) H
def rErrT (K : PySem.W.Frag) : List V → Hp → VK → Prop := fun xs H Q => ∃ (a C : Addr) (fs : List (Str × V)) (tp : Addr) (cs : List V) (us : List Value) (b : Bool), xs = [.ref a, .ref tp] ∧ ErrAt H a C fs ∧ XCl K C ∧ H tp = some (.tup cs) ∧ Paired ClsV cs us ∧ PySem.W.kitAny K (.ref C) us = some b ∧ Q (.bl b) H
theorem call_err : CallR X (.builtin "isinstance") (rErr X.K) := by
  intro pins s σ H xs us Q I r h
  obtain ⟨a, C, fs, c, u, b, rfl, hE, T, k, e, q⟩ := h
  obtain ⟨u1, u2, rfl, r1, r2⟩ := vals2 r
  cases (show u1 = Value.ref a from r1)
  have e2 := k.eq r2
  subst e2
  obtain ⟨ox, od, mA, J, _, _⟩ := err_inst I hE
  exact PySem.W.kia_one (PySem.W.ta_kitx T.i) I.kIn J e (fun z => nomatch z) fun tk => ⟨.bl b, H, I.tok tk, rfl, q⟩
theorem call_errT : CallR X (.builtin "isinstance") (rErrT X.K) := by
  intro pins s σ H xs us Q I r h
  obtain ⟨a, C, fs, tp, cs, ws, b, rfl, hE, T, hT, k, e, q⟩ := h
  obtain ⟨u1, u2, rfl, r1, r2⟩ := vals2 r
  cases (show u1 = Value.ref a from r1)
  cases (show u2 = Value.ref tp from r2)
  obtain ⟨ox, od, mA, J, _, _⟩ := err_inst I hE
  obtain ⟨_, its, rv, o, h1, h2, n, h3⟩ := (show ObjOk X.prog X.w H s.heap tp (.tup cs) from I.hok tp _ hT)
  have e3 := ClsV.all k rv
  subst e3
  obtain ⟨oc, od', dt, sl⟩ := o
  simp only at h2 h3
  subst h2 h3
  exact PySem.W.kia_tup (PySem.W.ta_kitx T.i) I.kIn J h1 e (fun z => nomatch z) fun tk => ⟨.bl b, H, I.tok tk, rfl, q⟩
end
end TA
set_option maxHeartbeats 400000
/-! own rules: try .. except C as n: m = n, where the error is held behind the suite; its fields, isinstance of it -/
namespace TG
open PySem PySem.Spec L2
open PyProof.Rows hiding St
/-- an error that was caught, of the class C, its dict at d -/
def xca (a C d : Addr) : HO := .ext fun h => ∃ (ob : Obj) (us : Array Value), h.get? a = some ob ∧ Zc (.ref C) (some d) ob ∧ ob.data = .fields us
def CauAt (H : Hp) (a C : Addr) (fs : List (Str × V)) : Prop := ∃ dd, H a = some (xca a C dd) ∧ H dd = some (.xd fs)
theorem CauAt.same {H H' : Hp} {a C : Addr} {fs : List (Str × V)} (h : CauAt H a C fs) (k : ∀ b o, H b = some o → H' b = some o) : CauAt H' a C fs :=
  h.imp fun _ q => ⟨k _ _ q.1, k _ _ q.2⟩
section
variable {X : Cx} {ps : List (Addr × Obj)} {τ : L2.St} {G : Hp} {z : Shared}
/-- a pinned error object, new since the def began, is told among the objects -/
theorem inv_hold {x C dd : Addr} {ob : Obj} (J : Inv X ((x, ob) :: ps) τ G z) (h0 : X.s_0.heap.get? x = none) (np : ∀ r ∈ X.pn ++ ps, r.1 ≠ x) (hz : Zc (.ref C) (some dd) ob) (hf : ∃ us, ob.data = .fields us) :
    Inv X ps τ (upd G x (xca x C dd)) z := by
  obtain ⟨us, hus⟩ := hf
  obtain ⟨there, gx, nLoc, nFs, noCell⟩ := J.pin (x, ob) (List.mem_append_right _ List.mem_cons_self)
  have off : ∀ b, b ≠ x → upd G x (xca x C dd) b = G b := fun b n => upd_ne n
  have tracked : ∀ {b o}, G b = some o → b ≠ x := fun e => ne_of_none e gx
  have un : Un X.fs X.ex X.H_0 (upd G x (xca x C dd)) X.s_0.heap z.heap := by
    have B := J.base
    refine { B with free := ?_, tups := ?_, frzs := ?_, tbls := ?_ }
    · intro b o e n hx
      rw [off b fun q => by rw [q, h0] at e; cases e]
      exact B.free b o e n hx
    · intro b us e
      have q := B.tups b us e
      rw [off b (tracked q)]
      exact q
    · intro b o u e
      have q := B.frzs b o u e
      rw [off b (tracked q)]
      exact q
    · intro b rs e
      have ⟨more, q⟩ := B.tbls b rs e
      exact ⟨more, (off b (tracked q)).trans q⟩
  have cells : ∀ y c, X.env.cells.lookup y = some c → upd G x (xca x C dd) c = none := by
    intro y c e
    rw [off c ?_]
    · exact J.freeC y c e
    · rintro rfl
      obtain ⟨v, o, e2, e3⟩ := J.cell y c e
      rw [there] at e2
      cases e2
      exact noCell v e3
  have pinned : ∀ r ∈ X.pn ++ ps, z.heap.get? r.1 = some r.2 ∧ upd G x (xca x C dd) r.1 = none ∧ r.1 ≠ X.env.locals ∧ r.1 ∉ X.fs ∧ ∀ v, r.2.data ≠ .cell v := by
    intro r hr
    have q := J.pin r (by
      rw [List.mem_append] at hr ⊢
      exact hr.imp id (List.mem_cons_of_mem _))
    rw [off r.1 (np r hr)]
    exact q
  have all : HOk X.prog X.w (upd G x (xca x C dd)) z.heap := J.hok.laidN (fun _ _ e => e) gx ⟨⟨ob, us, there, hz, hus⟩, ⟨ob, there⟩, fun _ _ ⟨o, v, q, r⟩ k => ⟨o, v, k o q, r⟩⟩
  exact ⟨J.ok, J.os, J.bare, un, J.loc, J.cell, (off _ (Ne.symm nLoc)).trans J.free, cells, pinned, all, J.len⟩
/-- behind the suite the error stays pinned a little longer -/
theorem unsuite_hold {x : Addr} {ob : Obj} (J : Inv (X.suite x ((x, ob) :: (X.pn ++ ps))) [] τ G z) (k : X.Ok) : Inv X ((x, ob) :: ps) τ G z := by
  refine ⟨k, J.os, J.bare, J.base, J.loc, J.cell, J.free, J.freeC, fun r hr => J.pin r ?_, J.hok, J.len⟩
  show r ∈ ((x, ob) :: (X.pn ++ ps)) ++ []
  rw [List.append_nil]
  simp only [List.mem_append, List.mem_cons] at hr ⊢
  rcases hr with a | a | a
  · exact .inr (.inl a)
  · exact .inl a
  · exact .inr (.inr a)
theorem not_frs {B h : Heap} {l : List Env} {x : Addr} {o : Obj} {us : Array Value} (ff : h.FunFrames B l) (e : h.get? x = some o) (d : o.data = .fields us) : x ∉ frs l := fun m => by
  have ⟨_, o2, e2, no⟩ := ff.mem m
  have : o = o2 := Option.some.inj (e.symm.trans e2)
  exact no us (this ▸ d)
/-- an error in the air is new: to the def's entry, and to what is pinned -/
theorem air_new {B : Heap} {x : Addr} (J : Inv X ps τ G z) (hex : X.ex = []) (ground : ∀ b o, z.heap.get? b = some o → b ∉ frs X.stack → B.get? b = some o) (hB : B.get? x = none) (nf : x ∉ frs X.stack) :
    X.s_0.heap.get? x = none ∧ ∀ r ∈ X.pn ++ ps, r.1 ≠ x := by
  have no : ∀ o, z.heap.get? x ≠ some o := fun o e => by
    have q := ground x o e nf
    rw [hB] at q
    cases q
  refine ⟨?_, fun r hr q => no r.2 (q ▸ (J.pin r hr).1)⟩
  match e : X.s_0.heap.get? x with
  | none => rfl
  | some o =>
    have ⟨o2, e2⟩ := J.base.there x o e (by rw [hex]; exact List.not_mem_nil)
    exact absurd e2 (no o2)
/-- what the clause 'except c as n: m = n' wishes: slot i is n's, slot j is m's -/
def wHold (K : PySem.W.Frag) (c : Value) (i j : Nat) (Wout : WX) (D : Ends) : WX := fun cls d σ H =>
  ∃ b, PySem.W.exmOne K cls c = some b ∧ (b = true → ∃ C dd, cls = .ref C ∧ d = some dd ∧ ∀ a, H a = none → D.nx (((σ.set i (some (.ref a))).set j (some (.ref a))).set i none) (upd H a (xca a C dd))) ∧ (b = false → Wout cls d σ H)
end
section
variable {X : Cx} {y n m : Str} {c : Value} {i j : Nat} {body : List Stmt} {ny pos pos' p1 p2 p3 : Pos} {tb : WX → TS} {Wout : WX}
/-- the suite itself -/
theorem hold_run {ps : List (Addr × Obj)} {τ : L2.St} {G : Hp} {z : Shared} {x : Addr} {ob : Obj} (hN : X.N.Nodup) (hi : X.N[i]? = some n) (hj : X.N[j]? = some m) (hln : X.env.kindOf n = some .local) (hlm : X.env.kindOf m = some .local) (hnd : (n == ("__debug__" : Str)) = false) (hncd : (n == ("__classdict__" : Str)) = false)
    (J : Inv (X.suite x ((x, ob) :: (X.pn ++ ps))) [] τ G z) (at_ : τ[i]? = some (some (.ref x))) :
    wpAny (model X.prog X.w) (X.A.mark (some (.ref x))) (execs [.Assign [.Name m p1] (.Name n p2) p3] X.env) (fun f z' => f = .next ∧ Inv (X.suite x ((x, ob) :: (X.pn ++ ps))) [] (τ.set j (some (.ref x))) G z') (fun _ _ => False) z := by
  have rule := pss_one (ps_set (X := X.suite x ((x, ob) :: (X.pn ++ ps))) (pos := p3) (pos' := p1) (i := j) hN hj (.inl hlm) (pe_var (pos := p2) (i := i) hi (.inl hln) hnd hncd) (hf := .inr hlm))
  refine wpAny_mono (rule.run [] z τ G { nx := fun τ' G' => τ' = τ.set j (some (.ref x)) ∧ G' = G, rt := fun _ _ => False, bk := fun _ _ => False, ct := fun _ _ => False } J ⟨_, at_, rfl, rfl⟩) (fun f z' q => ?_) fun _ _ q => q
  match f, q with
  | .next, ⟨_, _, J', e1, e2⟩ => exact ⟨rfl, e1 ▸ e2 ▸ J'⟩
  | .brk, ⟨_, _, _, q⟩ => exact q.elim
  | .cont, ⟨_, _, _, q⟩ => exact q.elim
  | .ret _, ⟨_, _, _, _, _, q⟩ => exact q.elim
theorem ps_try_hold (hstk : X.stack = X.env :: X.outer) (hfrm : X.env.frame = some X.env.locals) (hex : X.ex = []) (hN : X.N.Nodup) (hi : X.N[i]? = some n) (hj : X.N[j]? = some m) (hln : X.env.kindOf n = some .local) (hlm : X.env.kindOf m = some .local) (hc : Names X y c) (out : Takes X Wout)
    (hb : ∀ (W : WX) (pn : List (Addr × Obj)) (xe : Value → Shared → Prop), Takes (X.tr pn xe) W → PassesOwn (model X.prog X.w) X.A X.env xe → PSs (X.tr pn xe) body (tb W)) (hnd : (n == ("__debug__" : Str)) = false := by decide) (hncd : (n == ("__classdict__" : Str)) = false := by decide) :
    PS X (.Try body [.ExceptHandler (some (.Name y ny)) (some n) [.Assign [.Name m p1] (.Name n p2) p3] pos'] [] [] pos) (fun D σ H => tb (wHold X.K c i j Wout D) D σ H) := by
  refine ⟨fun ps z τ G D J rd => wpAny_Try_except ?_⟩
  have frames : X.A.frames = some (X.env :: X.outer) := by rw [← hstk]; exact J.ok.frames
  refine wpAny_mono ((hb (wHold X.K c i j Wout D) (X.pn ++ ps) (fun err z1 => wpAny (model X.prog X.w) X.A (noteFrame err X.env) (fun _ z2 => wpAny (model X.prog X.w) X.A (setFlight err none)
    (fun _ z3 => wpAny (model X.prog X.w) X.A (handleBy err X.env [.ExceptHandler (some (.Name y ny)) (some n) [.Assign [.Name m p1] (.Name n p2) p3] pos']) (SP X ps D) X.xe z3) X.xe z2) X.xe z1) ?air PassesOwn.looking).run [] z τ G D (J.toTry _) rd) (fun f z1 q => ?done) fun _ _ q => q
  case done =>
    match f, q with
    | .next, ⟨τ1, G1, J1, q1⟩ => exact wpAny_execs_nil ⟨τ1, G1, J1.ofTry J.ok, q1⟩
    | .brk, ⟨τ1, G1, J1, q1⟩ => exact ⟨τ1, G1, J1.ofTry J.ok, q1⟩
    | .cont, ⟨τ1, G1, J1, q1⟩ => exact ⟨τ1, G1, J1.ofTry J.ok, q1⟩
    | .ret u, ⟨v1, τ1, G1, J1, r1, q1⟩ => exact ⟨v1, τ1, G1, J1.ofTry J.ok, r1, q1⟩
  case air =>
    rintro _ z1 ⟨x, B, zI, ps1, τ1, G1, cls, d, rfl, JT, ground, up, sky, gx, same, bare, b, asked, yes, no⟩
    have JI : Inv X ps τ1 G1 zI := JT.ofTry J.ok
    rw [show (X.tr (X.pn ++ ps) _).stack = X.stack from rfl] at ground
    have sky1 : Sky B (X.env :: X.outer) x (Zc cls d) X.env.locals z1.heap := by rw [← hstk]; exact sky
    refine Sky.land Zc.steady frames hfrm sky1 fun hp2 fly2 up2 => ?_
    have J2 : Inv X ps τ1 G1 { z1 with heap := hp2 } := JI.landed ground fly2.1 (up.trans up2) same bare
    have ⟨o2, us2, at2, zc2, dat2⟩ := fly2.there
    have nf : x ∉ frs (X.env :: X.outer) := not_frs fly2.2.2.1 at2 dat2
    have nloc : x ≠ X.env.locals := by
      rintro rfl
      exact nf (List.mem_filterMap.mpr ⟨_, List.mem_cons_self, hfrm⟩)
    have nfs : x ∉ X.fs := fun mm => by
      have ⟨en, me, q⟩ := List.mem_filterMap.mp mm
      exact nf (List.mem_filterMap.mpr ⟨en, .tail _ me, q⟩)
    have ⟨new0, newP⟩ := air_new JI hex ground fly2.2.1 (by rw [hstk]; exact nf)
    have S2 := J2.suite at2 dat2 gx nloc nfs
    have looks : PySem.W.Looks (model X.prog X.w) hp2 (typeOf (.ref x)) cls := fun _ _ _ _ k q => wpAny_typeOf_ref (k _ _ at2) (by rw [zc2.1]; exact q)
    have ask := PySem.W.exm_one (M := model X.prog X.w) J2.kIn looks asked
    refine wpAny_handleBy_cons (codeAny_handlers_test ?_) (fun w => nomatch w)
    have named : ∀ {Q : Value → Shared → Prop} {E : Value → Shared → Prop}, Q c { z1 with heap := hp2 } → wpAny (model X.prog X.w) (X.A.mark (some (.ref x))) (eval (.Name y ny) X.env) Q E { z1 with heap := hp2 } := by
      intro Q E q
      obtain ⟨g1, g2, g3 | ⟨g3, g4, g5⟩⟩ := hc
      · exact ld_glob S2 g1 g3 q g2
      · exact ld_blt S2 g1 g3 g4 q g5 g2
    refine named (ask.here ?_)
    match b, yes, no with
    | true, yes, _ =>
      obtain ⟨C, dd, rfl, rfl, after⟩ := yes rfl
      refine codeAny_handlers_suite_as (HandSPX.lands_againZ fly2 fun hp3 fly3 up3 => ?_)
      have ⟨o3, us3, at3, zc3, dat3⟩ := fly3.there
      have S3 := (JI.landed (s' := { z1 with heap := hp3 }) ground fly3.1 ((up.trans up2).trans up3) same bare).suite at3 dat3 gx nloc nfs
      refine store_ok (X := X.suite x _) (v := V.ref x) S3 hN hi (.inl hln) rfl (fun z4 S4 => ?_) (.inr hln)
      refine wpAny_mono (hold_run hN hi hj hln hlm hnd hncd S4 (by rw [List.getElem?_set_self (by rw [JI.len]; exact (List.getElem?_eq_some_iff.mp hi).1)])) (fun f z5 q => ?_) fun _ _ q => q.elim
      obtain ⟨rfl, S5⟩ := q
      exact gone_ok (unsuite_hold S5 J.ok) hN hi hln fun z6 J6 => ⟨_, _, inv_hold J6 new0 newP zc3 ⟨_, dat3⟩, after x gx⟩
    | false, _, no =>
      refine wpAny_handleBy_nil ?_
      have ⟨_, _, _, o4, us4, T4, _, _, at4, _, dat4, tr4, _⟩ := fly2
      unfold PySem.passOn
      refine wpAny_bind (wpAny_field at4 dat4 tr4 ?_)
      rw [if_neg (by simp : ¬ ((Value.ref T4 == Value.none) = true))]
      have rise : wpAny (model X.prog X.w) X.A (setFlight (.ref x) X.env.frame) (fun _ z2 => wpAny (model X.prog X.w) X.A (throw (.ref x) : Sem Flow) (SP X ps D) X.xe z2) X.xe { z1 with heap := hp2 } := by
        rw [hfrm]
        exact HandSPX.setFlight_upZ fly2 fun hp3 held up3 => wpAny_throw (out _ _ ⟨x, B, zI, ps, τ1, G1, cls, d, rfl, JI, ground, (up.trans up2).trans up3, .inr (.inr (hstk.symm ▸ held)), gx, same, bare, no rfl⟩)
      first
        | exact wpAny_bind (wpAny_pure (wpAny_bind rise))
        | exact wpAny_bind rise
end
section
variable {X : Cx} {ps : List (Addr × Obj)} {τ : L2.St} {G : Hp} {z : Shared}
theorem cau_inst {x C : Addr} {fs : List (Str × V)} (J : Inv X ps τ G z) (h : CauAt G x C fs) : ∃ (ox od : Obj) (look : Str → Option Value), PySem.W.InstAt z.heap x ox C (some od) ∧ (∀ g, PySem.W.lookIn g od = some (look g)) ∧ ∀ g, RelO (fs.lookup g) (look g) := by
  have ⟨dd, e1, e2⟩ := h
  have ⟨⟨ob, us, there, zc, dat⟩, _⟩ := J.hok x _ e1
  have ⟨look, ns, rel⟩ : ObjOk X.prog X.w G z.heap dd (.xd fs) := J.hok dd _ e2
  have ⟨od, hod, hl⟩ := lookIn_ns ns
  refine ⟨ob, od, look, ⟨there, zc.1, ?_, ?_⟩, hl, rel⟩
  · unfold PySem.W.notCls
    rw [dat] <;> rfl
  · rw [zc.2]
    exact hod
/-- e.f of such an error -/
def tCfl (K : PySem.W.Frag) (g : Str) (te : TE) : TE := fun σ H Q => te σ H fun x H1 => ∃ (a C : Addr) (fs : List (Str × V)) (v : V), x = .ref a ∧ CauAt H1 a C fs ∧ L2.ExcC K C ∧ PySem.W.findIn K (.ref C) g = some none ∧ fs.lookup g = some v ∧ Q v H1
theorem pe_cfl {e : Expr} {te : TE} {g : Str} {pos : Pos} (he : PE X e te) (hb : attributeBase e g X.env (eval e X.env) = eval e X.env := by rfl) : PE X (.Attribute e g pos) (tCfl X.K g te) := by
  refine ⟨fun ps z τ G Q J rd => attr_of hb (thn (he.run ps z τ G _ J rd) ?_)⟩
  rintro u z1 ⟨_, G1, J1, ru, a, C, fs, v, rfl, hC, T, none_, hv, q⟩
  cases (show u = Value.ref a from ru)
  have ⟨ox, od, look, inst, hl, rel⟩ := cau_inst J1 hC
  have ⟨w, hw, rw_⟩ := RelO.some_of (v := v) (o := look g) (hv ▸ rel g)
  exact HandSPX.exc_get J1.kIn inst T.hg T.hk T.hs (PySem.W.findObj_own T.hd none_ rfl (by rw [hl, hw])) (handed_of rw_) ⟨v, G1, J1.tok _, rw_, q⟩
/-- isinstance of a value, or of such an error -/
def rIsC (K : PySem.W.Frag) : List V → Hp → VK → Prop := fun xs H Q => rIsi K xs H Q ∨ ∃ (a C : Addr) (fs : List (Str × V)) (c : V) (u : Value) (b : Bool), xs = [.ref a, c] ∧ CauAt H a C fs ∧ L2.ExcC K C ∧ ClsV c u ∧ PySem.W.kitOne K (.ref C) u = some b ∧ Q (.bl b) H
theorem call_isC : CallR X (.builtin "isinstance") (rIsC X.K) := by
  rintro ps z τ G xs us Q J rv (rd | ⟨a, C, fs, c, u, b, rfl, hC, T, kc, ans, q⟩)
  · exact call_isi ps z τ G xs us Q J rv rd
  · obtain ⟨w1, w2, rfl, r1, r2⟩ := vals2 rv
    cases (show w1 = Value.ref a from r1)
    cases kc.eq r2
    have ⟨ox, od, look, inst, _⟩ := cau_inst J hC
    exact PySem.W.kia_one (PySem.W.ta_kitx T) J.kIn inst ans (fun w => nomatch w) fun tk => ⟨.bl b, G, J.tok tk, rfl, q⟩
end
end TG
set_option maxHeartbeats 400000
/-! own rule: g(e, ..) within a try, g's promise by FnG -/
namespace TG
open PySem PySem.Spec L2
open PyProof.Rows hiding St
section
variable {X : Cx} {CX : CXT} {j k : Nat} {g : Addr} {gd : FuncData} {qs : List Str} {sp : Sp} {E : L2.St → XK} {x : Str} {p pos : Pos} {e : Expr} {es : List Expr} {t : L2.TA}
theorem run_fnGS {ps : List (Addr × Obj)} {τ : L2.St} {G : Hp} {z : Shared} {Q : VK} {as : List Value} {vs : List V} (F : FnG X.prog X.w X.K X.mg X.base CX k g gd qs sp) (hr : RoomG k X.A) (bd : Binds X.K gd qs []) (lets : PassesAt CX X τ (E τ))
    (J : Inv X ps τ G z) (rel : Vals vs as) (rd : sp vs G Q (E τ)) : wpAny (model X.prog X.w) X.A (call (.ref g) as) (EP X ps τ Q) X.xe z := by
  have n : as.length = qs.length := rel.length.symm.trans (F.len _ _ _ _ rd)
  have to : BindsTo z gd ⟨as, []⟩ (qs.zip as) := by
    have q := bd z as J.kIn (by simpa using n)
    simpa using q
  refine wpAny_call (codeAny_mono (F.go X.A X.stack z G ⟨as, []⟩ as vs Q (E τ) hr J.env0 to rel rd) fun res z' q => ?_)
  match res, q with
  | .error err, q => exact lets ps G z err z' J q
  | .ok (.ret _), q => exact J.after q
  | .ok .next, q => exact q.elim
  | .ok .brk, q => exact q.elim
  | .ok .cont, q => exact q.elim
theorem pe_cdGS (F : FnG X.prog X.w X.K X.mg X.base CX k g gd qs sp) (hr : RoomG j X.A) (hj : k ≤ j) (hm : X.mg x = some (.ref g)) (hk : PySem.W.keepIn X.K (.ref g) = true) (bd : Binds X.K gd qs []) (lets : ∀ τ, PassesAt CX X τ (E τ)) (args : PA X (e :: es) t) (hg : Gl X x := by rfl)
    (nd : (x == ("__debug__" : Str)) = false := by decide) (st : starEach (e :: es) X.env = (false, eval e X.env) :: starEach es X.env := by rfl) (pl : (backTo pos (starEach es X.env)).any (·.1) = false := by rfl) :
    PE X (.Call (.Name x p) (e :: es) [] pos) (tCallS sp E t) := by
  refine ⟨fun ps z τ G Q J rd => wpAny_Call_Name_kw (ld_glob J hg hm (PySem.W.callWith_K (h₀ := X.base) J.mod.kin hk (thn (args.run pos ps z τ G _ J rd) ?_) st pl) nd)⟩
  rintro as z1 ⟨vs, G1, J1, rel, q⟩
  exact ⟨J1.kIn, run_fnGS F (hr.mono hj) bd (lets τ) J1 rel q⟩
end
end TG
set_option maxHeartbeats 400000
/-! own rules: a lambda handed to a def, with or without one parameter that has an integer for a default; the def's promise by FnG -/
namespace TG
open PySem PySem.Spec L2 LamX
open PyProof.Rows hiding St
/-- the lambda's names: its own ones are unknown to the maker, the others are captured -/
structure LamN (N : List Str) (sc scope : Scope) : Prop where
  kind : scope.kind = .function
  plain : scope.isCoroutine = false ∧ scope.isGenerator = false
  cells : ∀ y ∈ scope.names, y.2 ≠ .cell
  off : ∀ y ∈ scope.names, y.2 = .local → y.1 ∉ N
  caught : ∀ n, (n, NameKind.free) ∈ scope.names → sc.names.lookup n = some .cell ∨ sc.names.lookup n = some .free
def lamNB (N : List Str) (sc scope : Scope) : Bool :=
  (decide (scope.kind = .function) && (!scope.isCoroutine && !scope.isGenerator)) && scope.names.all fun y => !decide (y.2 = .cell) && ((!decide (y.2 = .local) || !decide (y.1 ∈ N)) && (!decide (y.2 = .free) || (decide (sc.names.lookup y.1 = some .cell) || decide (sc.names.lookup y.1 = some .free))))
theorem lamN_by {N : List Str} {sc scope : Scope} (h : lamNB N sc scope = true) : LamN N sc scope := by
  obtain ⟨h1, h2⟩ := Bool.and_eq_true_iff.mp h
  obtain ⟨a, b⟩ := Bool.and_eq_true_iff.mp h1
  obtain ⟨b, c⟩ := Bool.and_eq_true_iff.mp b
  have row := List.all_eq_true.mp h2
  have part : ∀ y ∈ scope.names, ¬ y.2 = .cell ∧ (¬ y.2 = .local ∨ ¬ y.1 ∈ N) ∧ (¬ y.2 = .free ∨ sc.names.lookup y.1 = some .cell ∨ sc.names.lookup y.1 = some .free) := fun y hy => by
    simpa using row y hy
  exact ⟨of_decide_eq_true a, ⟨by simpa using b, by simpa using c⟩, fun y hy => (part y hy).1, fun y hy e => ((part y hy).2.1).resolve_left (fun n => n e), fun n hy => ((part _ hy).2.2).resolve_left (fun k => k rfl)⟩
section
variable {X : Cx} {ps : List (Addr × Obj)} {τ : L2.St} {G GZ : Hp} {z z1 : Shared} {scope : Scope}
theorem LamN.has (L : LamN X.N X.env.scope scope) (ok : X.Ok) : ∀ y ∈ scope.names, y.2 = .free → ∃ c, X.env.cells.lookup y.1 = some c := fun y hy e =>
  ok.has y.1 (L.caught y.1 (by rw [← e]; exact hy))
/-- the lambda's frame is entered -/
theorem lam_inv {A : Around} {outer : List Env} {E : XK} {f c' : Addr} {h1 : Heap} {tk : Nat} {m : Str → Option Value} (J : Inv X ps τ G z) (L : LamN X.N X.env.scope scope) (e0 : Env0 X.prog X.w X.K X.mg X.base A outer z1 GZ) (hd : A.handled = none)
    (un : Un (frs X.stack) [] G GZ z.heap z1.heap) (ns : h1.Ns z1.heap.objs.size m) (keep : ∀ b o, z1.heap.get? b = some o → h1.get? b = some o) :
    Inv (lamCx X A outer z1 GZ E scope f c') [] τ GZ { z1 with heap := h1, toks := tk } := by
  have has := L.has J.ok
  have back : ∀ {y c}, (cloFrom X.env.cells scope.names []).lookup y = some c → X.env.cells.lookup y = some c := by
    intro y c e
    rcases cloFrom_mem (PySem.mem_of_lookup e) with q | ⟨q, rfl⟩
    · exact nomatch q
    · have ⟨d, hd⟩ := has _ q rfl
      have hd : X.env.cells.lookup y = some d := hd
      rw [hd]
      rfl
  have there : ∀ {y}, scope.names.lookup y = some .free → ∃ c, (cloFrom X.env.cells scope.names []).lookup y = some c := fun hy => mem_lookup (cloFrom_has (PySem.mem_of_lookup hy))
  have cellK : ∀ {c : Addr} {v : Option Value}, G c = none → z.heap.IsCell c v → h1.IsCell c v := by
    rintro c v n ⟨o, ho, hv⟩
    have ⟨sl, q⟩ := un.any ho n List.not_mem_nil
    exact ⟨_, keep _ _ q, hv⟩
  have okL : (lamCx X A outer z1 GZ E scope f c').Ok :=
    { mod := e0.mod, kind := L.kind, glob := rfl, blt := rfl, above := Nat.le_refl _
      inj := fun a b c ea eb => J.ok.inj a b c (back ea) (back eb)
      has := fun y hy => by
        rcases (show scope.names.lookup y = some .cell ∨ scope.names.lookup y = some .free from hy) with q | q
        · exact absurd rfl (L.cells _ (PySem.mem_of_lookup q))
        · exact there q
      cab := fun y c q _ => nomatch (show false = true from q)
      hd := fun _ => hd, frames := Around.frames_deeper e0.frames, stk := .inr ⟨rfl, rfl⟩
      exf := fun b q => nomatch (show b ∈ ([] : List Addr) from q)
      bs := e0.bs, bsz := e0.bsz
      noex := fun b _ _ q => nomatch (show b ∈ ([] : List Addr) from q)
      exfs := fun b q => nomatch (show b ∈ ([] : List Addr) from q)
      funs := e0.funs, frf := e0.frf }
  have names : ∃ m, h1.Ns z1.heap.objs.size m ∧ ∀ (i : Nat) (y : Str) (v : V), X.N[i]? = some y → τ[i]? = some (some v) → Vis scope y → ∃ u, RelV v u ∧ Look (lamEnv X scope z1.heap.objs.size f c') h1 m y u := by
    refine ⟨m, ns, fun i y v e1 e2 vis => ?_⟩
    have mem : y ∈ X.N := List.mem_of_getElem? e1
    rcases vis with q | q | q
    · exact absurd mem (L.off _ (PySem.mem_of_lookup q) rfl)
    · exact absurd rfl (L.cells _ (PySem.mem_of_lookup q))
    · have fr := L.caught _ (PySem.mem_of_lookup q)
      have ⟨mm, _, hl⟩ := J.loc
      have ⟨u, ru, at_⟩ := hl i y v e1 e2 (fr.elim (fun k => .inr (.inl k)) fun k => .inr (.inr k))
      have ⟨c, hc⟩ := there q
      have hcX := back hc
      refine ⟨u, ru, .inr ⟨.inr q, c, hc, ?_⟩⟩
      rcases at_ with ⟨k, _⟩ | ⟨_, c2, hc2, isC⟩
      · rcases fr with k2 | k2 <;> exact nomatch ((show X.env.scope.names.lookup y = some .local from k).symm.trans k2)
      · cases hcX.symm.trans hc2
        exact cellK (J.freeC y c hcX) isC
  exact
    { ok := okL, os := rfl, bare := e0.bare, base := Un.kept keep, loc := names
      cell := fun y c e => by
        have ⟨v, q⟩ := J.cell y c (back e)
        exact ⟨v, cellK (J.freeC y c (back e)) q⟩
      free := e0.hok.fresh (Nat.le_refl _)
      freeC := fun y c e => by
        have ⟨v, o, ho, _⟩ := J.cell y c (back e)
        exact un.free c o ho (J.freeC y c (back e)) List.not_mem_nil
      pin := fun q hq => nomatch (show q ∈ ([] : List (Addr × Obj)) from hq)
      hok := e0.hok.kept keep, len := J.len }
end
/-! ### the lambda is made -/
/-- a function object of a lambda, as it stands in the heap -/
abbrev lamO (q : Str) (params : Arguments) (body : Expr) (scope : Scope) (cl : List (Str × Addr)) (dV doc pm : Value) (c' : Addr) (ct : Value) : Obj := PySem.W.kdv_obj "<lambda>" q params (.expr body) scope cl dV doc pm c' ct
section
variable {X : Cx} {ps : List (Addr × Obj)} {τ : L2.St} {G : Hp} {z : Shared} {scope : Scope}
theorem off_frames (J : Inv X ps τ G z) {f : Addr} (h : z.heap.objs.size ≤ f) : f ∉ frs X.stack := fun m => by
  rcases List.mem_cons.mp (J.stkSub _ m) with e | e
  · have lt := J.lt
    rw [← e] at lt
    exact absurd lt (Nat.not_lt.mpr h)
  · exact J.nofs h e
/-- with one parameter that has a default -/
theorem lam_make1 {T : List (Addr × Str)} {c P : Addr} {params : Arguments} {body e : Expr} {pos : Pos} {E : Value → Shared → Prop} {Q : Value → Shared → Prop} {i : Int} (J : Inv X ps τ G z) (TB : TabB X.base X.mg c P) (hcode : X.env.code = .ref c)
    (hm : (P, X.env.qual ++ "<lambda>") ∈ T) (hu : ∀ p ∈ T, p.1 = P → p.2 = X.env.qual ++ "<lambda>") (hT : Tabs T G) (hd : params.defaults = [e]) (hk0 : params.kw_defaults = []) (he : PE X e (tC (.int i))) (has : ∀ y ∈ scope.names, y.2 = .free → ∃ c, X.env.cells.lookup y.1 = some c)
    (hxe : ∀ v s, X.xe v s → E v s)
    (h : ∀ (f t c' : Addr) (dv doc pm ct : Value) (G1 : Hp) (z' : Shared), Inv X ps τ G1 z' → ExtN G G1 → Tabs T G1 → z'.heap.get? f = some (lamO (X.env.qual ++ "<lambda>") params body scope (cloFrom X.env.cells scope.names []) (.ref t) doc pm c' ct) → z'.heap.get? t = some (PySem.W.kdv_tup [dv]) → RelV (.int i) dv →
      G1 f = none → f ∉ frs X.stack → G1 t = none → t ∉ frs X.stack → G1 c' = some (CodeO c' (X.env.qual ++ "<lambda>")) → Q (.ref f) z') :
    wpAny (model X.prog X.w) X.A (eval (.Lambda params body scope pos) X.env) Q E z := by
  refine PySem.W.kdv_lam (by rw [hd]; rfl) hk0 ?_
  rw [hd]
  refine PySem.W.kdv_all1 (wpAny_mono (he.run ps z τ G (fun v G' => v = .int i ∧ G = G') J ⟨rfl, rfl⟩) (fun dv z1 q => PySem.W.kdv_all0 ?_) hxe)
  obtain ⟨_, G1, J1, rel, rfl, eG⟩ := q
  subst eG
  rw [makeFunction_eq]
  simp only [List.zip_nil_right, List.filterMap_nil, List.isEmpty_nil, if_true, pure_bind, List.isEmpty_cons, Bool.false_eq_true, if_false]
  apply wpAny_bind
  apply wpAny_newTextTuple
  have up : ∀ b o, z1.heap.get? b = some o → (z1.heap.push (PySem.W.kdv_tup [dv])).get? b = some o := fun b o e => Heap.get?_push_of_some _ e
  have J2 : Inv X ps τ G { z1 with heap := z1.heap.push (PySem.W.kdv_tup [dv]) } := J1.kept up
  have tIs : (z1.heap.push (PySem.W.kdv_tup [dv])).get? z1.heap.objs.size = some (PySem.W.kdv_tup [dv]) := Heap.get?_push_size _ rfl
  have tNo : G z1.heap.objs.size = none := J1.hok.fresh (Nat.le_refl _)
  have tFr := off_frames J1 (Nat.le_refl _)
  generalize z1.heap.objs.size = t at tIs tNo tFr ⊢
  generalize z1.heap.push (PySem.W.kdv_tup [dv]) = hp at J2 tIs ⊢
  obtain ⟨row, hP, triples, among⟩ := hT _ hm
  have bP := TB.bm.keeps J2.bk
  have atP : hp.get? P = some { cls := .none, data := .fields row } := J2.hok P _ hP
  match hc : codeAmong pos row.toList with
  | none =>
    refine PySem.W.kdv_makeTail (closure_ok has) J2.ok.glob (J2.mod.glob.keeps J2.bk) hcode (TB.code.keeps J2.bk) atP triples hc TB.gP bP fun c' ct doc h2 tk grew hge hlt hrec htb => ?_
    have ⟨_, oc, vs, tt, e2, hoc, hdv, hv⟩ := hrec
    cases e2
    have hge : hp.objs.size ≤ c' := hge
    have cNo : G c' = none := J2.hok.fresh hge
    have more : hp.objs.size ≤ h2.objs.size := by omega
    have J3 := inv_table (t' := tk) (more := #[rawInt pos.line, rawInt pos.col, .ref c']) (h' := h2.push (lamO (X.env.qual ++ "<lambda>") params body scope (cloFrom X.env.cells scope.names []) (.ref t) doc ((X.mg "__name__").getD .none) c' ct)) J2 hP
      (fun b o n e => Heap.get?_push_of_some _ (grew b o n e)) (Heap.get?_push_of_some _ htb) hge ⟨oc, vs, tt, Heap.get?_push_of_some _ hoc, hdv, hv⟩
    have ext : ExtN G (upd (upd G P (.tbl (row ++ #[rawInt pos.line, rawInt pos.col, .ref c']))) c' (CodeO c' (X.env.qual ++ "<lambda>"))) := by
      intro b o e n
      have nb : b ≠ P := by
        rintro rfl
        rw [hP] at e
        exact n row (Option.some.inj e).symm
      rw [upd_ne (ne_of_none e cNo), upd_ne nb]
      exact e
    have same : ∀ b, G b = none → b ≠ c' → upd (upd G P (.tbl (row ++ #[rawInt pos.line, rawInt pos.col, .ref c']))) c' (CodeO c' (X.env.qual ++ "<lambda>")) b = none := by
      intro b e n
      rw [upd_ne n, upd_ne fun q => by rw [q, hP] at e; cases e]
      exact e
    refine h h2.objs.size t c' dv doc _ ct _ _ J3 ext (fun p hp => ?_) (Heap.get?_push_size _ rfl) (Heap.get?_push_of_some _ (grew t _ (fun q => by rw [q, hP] at tNo; cases tNo) tIs)) rel (same _ (J2.hok.fresh more) (Nat.ne_of_gt hlt)) (off_frames J2 more) (same _ tNo ?_) tFr upd_same
    · obtain ⟨row', a1, a2, a3⟩ := hT p hp
      by_cases hb : p.1 = P
      · rw [hu p hp hb, hb]
        have lst : (row ++ #[rawInt pos.line, rawInt pos.col, .ref c']).toList = row.toList ++ [rawInt pos.line, rawInt pos.col, .ref c'] := by simp
        refine ⟨_, (upd_ne (ne_of_none hP cNo)).trans upd_same, lst ▸ PySem.TriplesOk_snoc _ _ _ _ triples, fun p' cv hcv => ?_⟩
        rw [lst] at hcv
        rcases among_app _ triples hcv with q | q
        · obtain ⟨c0, e1, e2⟩ := among p' cv q
          exact ⟨c0, e1, ext _ _ e2 codeO_ne⟩
        · exact ⟨c', q, upd_same⟩
      · refine ⟨row', ?_, a2, fun p' cv hcv => ?_⟩
        · rw [upd_ne (ne_of_none a1 cNo), upd_ne hb]
          exact a1
        · obtain ⟨c0, e1, e2⟩ := a3 p' cv hcv
          exact ⟨c0, e1, ext _ _ e2 codeO_ne⟩
    · rintro rfl
      exact absurd (Heap.lt_size tIs) (Nat.not_lt.mpr hge)
  | some cv =>
    obtain ⟨c', rfl, isCode⟩ := among pos cv hc
    refine PySem.W.kdv_makeTailHit (closure_ok has) J2.ok.glob (J2.mod.glob.keeps J2.bk) hcode (TB.code.keeps J2.bk) atP triples hc bP fun ct doc h2 tk keep more => ?_
    have J3 : Inv X ps τ G { z1 with heap := h2.push (lamO (X.env.qual ++ "<lambda>") params body scope (cloFrom X.env.cells scope.names []) (.ref t) doc ((X.mg "__name__").getD .none) c' ct), toks := tk } := J2.kept fun b o e => Heap.get?_push_of_some _ (keep b o e)
    exact h h2.objs.size t c' dv doc _ ct G _ J3 (ExtN.refl G) hT (Heap.get?_push_size _ rfl) (Heap.get?_push_of_some _ (keep _ _ tIs)) rel (J2.hok.fresh more) (off_frames J2 more) tNo tFr isCode
end
/-! ### the lambda is called, where it was handed to -/
section
variable {X : Cx} {ps : List (Addr × Obj)} {τ : L2.St} {G : Hp} {z : Shared} {scope : Scope}
/-- what the def that got the lambda knows of it: its context, entered at z -/
abbrev gotCx (X : Cx) (N : List Str) (x : Str) (sg : Scope) (g : Addr) (cdg : Value) (z : Shared) (G : Hp) : Cx := cxOf CX0 X.prog X.w X.K X.mg X.base N x sg g cdg X.A X.stack z G E0
theorem pe_actG {N : List Str} {x : Str} {sg : Scope} {g f c' : Addr} {cdg dV doc pm ct : Value} {params : Arguments} {body : Expr} {k : Nat} {a : Str} {bs : List (Str × Value)} {pn : List (Addr × Obj)} {xe : Value → Shared → Prop} {W : WX} {E : XK} {tb : TE} {p1 p2 : Pos}
    (J : Inv X ps τ G z) (L : LamN X.N X.env.scope scope) (hf : z.heap.get? f = some (lamO (X.env.qual ++ "<lambda>") params body scope (cloFrom X.env.cells scope.names []) dV doc pm c' ct)) (fNo : G f = none) (fFr : f ∉ frs X.stack)
    (binds : ∀ z1 : Shared, (∀ b o, z.heap.get? b = some o → G b = none → b ∉ frs X.stack → z1.heap.get? b = some o) → BindsTo z1 (PySem.W.kdv_fn "<lambda>" (X.env.qual ++ "<lambda>") params (.expr body) scope (cloFrom X.env.cells scope.names []) dV doc pm (.ref c') ct) ⟨[], []⟩ bs)
    (own : ∀ y ∈ bs, scope.names.lookup y.1 = some .local) (tk : Takes ((gotCx X N x sg g cdg z G).tr pn xe) W) (hr : RoomG (k + 1) (X.A.deeper (envOfC x sg z.heap.objs.size g cdg)))
    (run : ∀ (A : Around) (outer : List Env) (s : Shared) (H : Hp), RoomG k (A.deeper (lamEnv X scope s.heap.objs.size f c')) → PE (lamCx X A outer s H E scope f c') body tb)
    (hN : N[0]? = some a) (hv : Vis sg a) (hd : (a == ("__debug__" : Str)) = false := by decide) (hcd : (a == ("__classdict__" : Str)) = false := by decide) :
    PE ((gotCx X N x sg g cdg z G).tr pn xe) (.Call (.Name a p1) [] [] p2) (fun σZ HZ Q => σZ[0]? = some (some (.ref f)) ∧ HZ c' = some (CodeO c' (X.env.qual ++ "<lambda>")) ∧ (∀ cls d H', E cls d H' → W cls d σZ H') ∧ tb τ HZ Q) := by
  refine ⟨fun pZ sZ σZ HZ Q JZ rd => wpAny_Call_Name_kw (thn ((pe_var (pos := p1) (i := 0) hN hv hd hcd).run pZ sZ σZ HZ (fun v H1 => v = .ref f ∧ HZ = H1) JZ ⟨_, rd.1, rfl, rfl⟩) ?_)⟩
  rintro u z1 ⟨_, H1, J1, ru, rfl, eH⟩
  subst eH
  cases (show u = Value.ref f from ru)
  have kept : ∀ b o, z.heap.get? b = some o → G b = none → b ∉ frs X.stack → z1.heap.get? b = some o := fun b o e n fr => J1.base.keep b o e n fr fun q => nomatch (show b ∈ ([] : List Addr) from q)
  have at1 := kept f _ hf fNo fFr
  have ⟨⟨oc, us, tq, e1, e2, e3⟩, _⟩ := J1.hok c' _ rd.2.1
  refine PySem.W.callWith_F0 ⟨_, _, _, _, at1⟩ (wpAny_call (codeAny_mono (R := CR (L2.CX X.prog X.w) (envOfC x sg z.heap.objs.size g cdg :: X.stack) X.prog X.w HZ z1 Q E) ?_ fun res z2 q => ?_))
  · refine PySem.W.kla_callFunE hr.depth at1 rfl L.plain.1 L.plain.2 rfl ⟨c', oc, us, tq, rfl, e1, e2, e3⟩ (binds z1 kept _ _ _ _ (wpAny_newFunctionEnv L.cells own (fun h1 ns same => ⟨J1.nolimit.fresh _ same, PySem.W.kla_codeExpr ?_⟩) L.kind))
    have up : ∀ b o, z1.heap.get? b = some o → h1.get? b = some o := fun b o e => same.extBut b o (Nat.ne_of_lt (Heap.lt_size e)) (Heap.get?_push_of_some _ e)
    have J2 := lam_inv (f := f) (c' := c') (E := E) (tk := z1.toks + bs.length) J L J1.env0 hr.hd (show Un (frs X.stack) [] G HZ z.heap z1.heap from J1.base) ns up
    refine wpAny_mono ((run _ _ z1 HZ (hr.down _)).run [] _ τ HZ Q J2 rd.2.2.2) (fun v z3 q => ?_) fun _ _ q => q
    have ⟨w2, H2, J3, rv, q2⟩ := q
    exact ⟨w2, H2, J3.os, J3.bare, J3.base, J3.hok, rv, q2⟩
  · match res, q with
    | .error err, q => exact tk err z2 (XE.of_call J1 (fun cls d H' h => rd.2.2.1 cls d H' h) q)
    | .ok (.ret _), q => exact J1.after q
    | .ok .next, q => exact q.elim
    | .ok .brk, q => exact q.elim
    | .ok .cont, q => exact q.elim
end
/-! ### x(lambda: body) -/
section
variable {P : Program} {w : World} {K : PySem.W.Frag} {mg : Str → Option Value} {base : Heap}
/-- a def called here and now: fun_okG at one state -/
theorem callee_run {x qual : Str} {st : Stmt} {f : Addr} {fd : FuncData} {N ps : List Str} {k : Nat} (F : Fun K x qual st f fd) (S : FnScope N ps (defScope st)) {A : Around} {outer : List Env} {s : Shared} {H : Hp} {args : Args} {us : List Value} {vs : List V} {Q : VK} {E : XK}
    (hr : RoomG (k + 1) A) (e0 : Env0 P w K mg base A outer s H) (hb : BindsTo s fd args (ps.zip us)) (r : Vals vs us) (hl : vs.length = ps.length)
    (hbody : ∀ cdv : Value, RoomG k (A.deeper (envOfC qual (defScope st) s.heap.objs.size f cdv)) → ∃ t, PSs (cxOf CX0 P w K mg base N qual (defScope st) f cdv A outer s H E).nox (defBody st) t ∧ t { nx := fun _ H' => Q .non H', rt := Q } (start N vs) H) :
    codeAny (model P w) A (.call (.ref f) args) (CR CX0 outer P w H s Q E) s := by
  obtain ⟨oc, od, kV, doc, pm, an, cdv, ct, osl, rfl, lk, hcd⟩ := F.ex
  have kin : K.In s.heap := e0.mod.kin.keeps fun b o e => (e0.bs b o e).1
  have hlim : s.heap.NoLimit := e0.mod.nolimit.keeps fun b o e => (e0.bs b o e).1
  have kinds : ∀ y ∈ ps.zip us, (defScope st).names.lookup y.1 = some .local ∨ ((defScope st).names.lookup y.1 = some .cell ∧ ((cellsFrom (s.heap.objs.size + 1) (defScope st).names []).lookup y.1).isSome = true) := by
    rintro ⟨n, v⟩ hy
    exact (S.par n (List.of_mem_zip hy).1).elim .inl fun z => .inr ⟨z, PySem.W.cellsFrom_some _ _ _ (.inl z)⟩
  refine codeAny_call_function hr.depth (kin _ _ lk) rfl S.co S.gen rfl (PySem.W.codeRec_of kin hcd) (hb _ _ _ _ ?_)
  refine wpAny_newFunctionEnv_cells S.kind kinds fun env he s1 z => ?_
  subst he
  refine ⟨hlim.keeps z.toInCall.keep, codeAny_func ?_⟩
  obtain ⟨t, ht, hq⟩ := hbody cdv (hr.down _)
  have I : Inv (cxOf CX0 P w K mg base N qual (defScope st) f cdv A outer s H E) [] (start N vs) H s1 := inv_start S hr.hd e0 hl r z
  refine wpAny_mono (ht.nox.run [] s1 (start N vs) H _ I hq) (fun fl s' hs => ?_) fun e s' hs => hs
  match fl, hs with
  | .ret u, ⟨v, τ, G, J, rv, q⟩ => exact ⟨v, G, J.os, J.bare, J.base, J.hok, rv, q⟩
  | .next, ⟨τ, G, J, q⟩ => exact ⟨V.non, G, J.os, J.bare, J.base, J.hok, rfl, q⟩
  | .brk, ⟨_, _, _, q⟩ => exact q.elim
  | .cont, ⟨_, _, _, q⟩ => exact q.elim
end
/-- a def that is handed the lambda as a, and calls it: TT tells its promise by the lambda's own reading -/
def GivesG (X : Cx) (N : List Str) (x : Str) (sg : Scope) (g : Addr) (bg : List Stmt) (a q : Str) (n : Nat) (TT : (XK → Hp → VK → Prop) → Hp → VK → Prop) : Prop :=
  ∀ (cdg : Value) (f c' : Addr) (s : Shared) (H : Hp) (Q : VK) (tl : XK → Hp → VK → Prop), RoomG n (X.A.deeper (envOfC x sg s.heap.objs.size g cdg)) →
    (∀ (W : WX) (pn : List (Addr × Obj)) (xe : Value → Shared → Prop) (E : XK) (p1 p2 : Pos), Takes ((gotCx X N x sg g cdg s H).tr pn xe) W →
      PE ((gotCx X N x sg g cdg s H).tr pn xe) (.Call (.Name a p1) [] [] p2) (fun σZ HZ Q => σZ[0]? = some (some (.ref f)) ∧ HZ c' = some (CodeO c' q) ∧ (∀ cls d H', E cls d H' → W cls d σZ H') ∧ tl E HZ Q)) →
    H c' = some (CodeO c' q) → TT tl H Q → ∃ t, PSs (gotCx X N x sg g cdg s H).nox bg t ∧ t { nx := fun _ H' => Q .non H', rt := Q } (start N [.ref f]) H
section
variable {X : Cx} {T : List (Addr × Str)} {TT : (XK → Hp → VK → Prop) → Hp → VK → Prop} {x a : Str} {st : Stmt} {g c P : Addr} {gd : FuncData} {k : Nat} {N : List Str} {params : Arguments} {body : Expr} {scope : Scope} {t : XK → TE} {p lpos pos : Pos}
theorem call_given {ps : List (Addr × Obj)} {τ : L2.St} {G : Hp} {z : Shared} {Q : VK} {f c' : Addr} {dV doc pm ct : Value} {bs : List (Str × Value)} (F : Fun X.K x x st g gd) (bd : Binds X.K gd [a] []) (S : FnScope N [a] (defScope st)) (hN : N[0]? = some a) (hva : Vis (defScope st) a)
    (hG : GivesG X N x (defScope st) g (defBody st) a (X.env.qual ++ "<lambda>") (k + 1) TT) (hr : RoomG (k + 2) X.A) (L : LamN X.N X.env.scope scope)
    (run : ∀ (A : Around) (outer : List Env) (s : Shared) (H : Hp) (E : XK) (f c' : Addr), RoomG k (A.deeper (lamEnv X scope s.heap.objs.size f c')) → PE (lamCx X A outer s H E scope f c') body (t E))
    (J : Inv X ps τ G z) (hf : z.heap.get? f = some (lamO (X.env.qual ++ "<lambda>") params body scope (cloFrom X.env.cells scope.names []) dV doc pm c' ct)) (fNo : G f = none) (fFr : f ∉ frs X.stack) (isC : G c' = some (CodeO c' (X.env.qual ++ "<lambda>")))
    (binds : ∀ z1 : Shared, (∀ b o, z.heap.get? b = some o → G b = none → b ∉ frs X.stack → z1.heap.get? b = some o) → BindsTo z1 (PySem.W.kdv_fn "<lambda>" (X.env.qual ++ "<lambda>") params (.expr body) scope (cloFrom X.env.cells scope.names []) dV doc pm (.ref c') ct) ⟨[], []⟩ bs)
    (own : ∀ y ∈ bs, scope.names.lookup y.1 = some .local) (rd : TT (fun E H' Q' => t E τ H' Q') G Q) (hd : (a == ("__debug__" : Str)) = false := by decide) (hcd : (a == ("__classdict__" : Str)) = false := by decide) :
    wpAny (model X.prog X.w) X.A (call (.ref g) [.ref f]) (EP X ps τ Q) X.xe z := by
  have to : BindsTo z gd ⟨[.ref f], []⟩ (([a] : List Str).zip [.ref f]) := by simpa using bd z [.ref f] J.kIn rfl
  refine wpAny_call (codeAny_mono (callee_run (E := E0) (Q := Q) F S hr J.env0 to (vs := [.ref f]) (.cons rfl .nil) rfl fun cdv hr1 => ?_) fun res z' q => ?_)
  · exact hG cdv f c' z G Q _ hr1 (fun W pn xe E p1 p2 tk => pe_actG J L hf fNo fFr binds own tk hr1 (fun A outer s H h => run A outer s H E f c' h) hN hva hd hcd) isC rd
  · match res, q with
    | .error _, q => exact q.elim
    | .ok (.ret _), q => exact J.after q
    | .ok .next, q => exact q.elim
    | .ok .brk, q => exact q.elim
    | .ok .cont, q => exact q.elim
/-- x(lambda: body) -/
theorem pe_lamG (F : Fun X.K x x st g gd) (hm : X.mg x = some (.ref g)) (bd : Binds X.K gd [a] []) (S : FnScope N [a] (defScope st)) (hN : N[0]? = some a) (hva : Vis (defScope st) a) (hG : GivesG X N x (defScope st) g (defBody st) a (X.env.qual ++ "<lambda>") (k + 1) TT)
    (TB : TabB X.base X.mg c P) (hcode : X.env.code = .ref c) (hmT : (P, X.env.qual ++ "<lambda>") ∈ T) (hu : ∀ p ∈ T, p.1 = P → p.2 = X.env.qual ++ "<lambda>") (hr : RoomG (k + 2) X.A) (L : LamN X.N X.env.scope scope) (hdef : defaultsOf params X.env = ([], []))
    (hbind : ∀ (q : Str) (cl : List (Str × Addr)) (doc pm cv ctv : Value), bindArgs (PySem.W.kdv_fn "<lambda>" q params (.expr body) scope cl .none doc pm cv ctv) ⟨[], []⟩ = pure [])
    (run : ∀ (A : Around) (outer : List Env) (s : Shared) (H : Hp) (E : XK) (f c' : Addr), RoomG k (A.deeper (lamEnv X scope s.heap.objs.size f c')) → PE (lamCx X A outer s H E scope f c') body (t E)) (hg : Gl X x := by rfl)
    (hdb : (x == ("__debug__" : Str)) = false := by decide) (hd : (a == ("__debug__" : Str)) = false := by decide) (hcd : (a == ("__classdict__" : Str)) = false := by decide) :
    PE X (.Call (.Name x p) [.Lambda params body scope lpos] [] pos) (tLam T TT t) := by
  refine ⟨fun ps z τ G Q J rd => wpAny_Call_Name_kw (ld_glob J hg hm (PySem.W.callWith_K (h₀ := X.base) J.mod.kin F.kp ?_ (by rfl) (by rfl)) hdb)⟩
  show wpAny _ _ (spliced ((false, eval (.Lambda params body scope lpos) X.env) :: backTo pos (starEach [] X.env))) _ _ z
  refine Calls.spliced_cons (lam_make2 J TB hcode hmT hu rd.1 hdef (L.has J.ok) fun f c' pm ctv G1 z' J1 ext tabs hf fNo fFr isC => Calls.spliced_nil ⟨J1.kIn, ?_⟩)
  exact call_given (bs := []) F bd S hN hva hG hr L run J1 hf fNo fFr isC (fun z1 _ => .of_eq (hbind _ _ _ _ _ _)) (fun y hy => nomatch hy) (rd.2 G1 ext tabs) hd hcd
/-- x(lambda b=i: body) -/
theorem pe_lamG1 {b : Str} {e : Expr} {i : Int} (F : Fun X.K x x st g gd) (hm : X.mg x = some (.ref g)) (bd : Binds X.K gd [a] []) (S : FnScope N [a] (defScope st)) (hN : N[0]? = some a) (hva : Vis (defScope st) a) (hG : GivesG X N x (defScope st) g (defBody st) a (X.env.qual ++ "<lambda>") (k + 1) TT)
    (TB : TabB X.base X.mg c P) (hcode : X.env.code = .ref c) (hmT : (P, X.env.qual ++ "<lambda>") ∈ T) (hu : ∀ p ∈ T, p.1 = P → p.2 = X.env.qual ++ "<lambda>") (hr : RoomG (k + 2) X.A) (L : LamN X.N X.env.scope scope) (hdef : params.defaults = [e]) (hk0 : params.kw_defaults = []) (he : PE X e (tC (.int i)))
    (hbind : ∀ (z1 : Shared) (t : Addr) (dv : Value) (q : Str) (cl : List (Str × Addr)) (doc pm cv ctv : Value), z1.heap.get? t = some (PySem.W.kdv_tup [dv]) → BindsTo z1 (PySem.W.kdv_fn "<lambda>" q params (.expr body) scope cl (.ref t) doc pm cv ctv) ⟨[], []⟩ [(b, dv)])
    (own : scope.names.lookup b = some .local)
    (run : ∀ (A : Around) (outer : List Env) (s : Shared) (H : Hp) (E : XK) (f c' : Addr), RoomG k (A.deeper (lamEnv X scope s.heap.objs.size f c')) → PE (lamCx X A outer s H E scope f c') body (t E)) (hg : Gl X x := by rfl)
    (hdb : (x == ("__debug__" : Str)) = false := by decide) (hd : (a == ("__debug__" : Str)) = false := by decide) (hcd : (a == ("__classdict__" : Str)) = false := by decide) :
    PE X (.Call (.Name x p) [.Lambda params body scope lpos] [] pos) (tLam T TT t) := by
  refine ⟨fun ps z τ G Q J rd => wpAny_Call_Name_kw (ld_glob J hg hm (PySem.W.callWith_K (h₀ := X.base) J.mod.kin F.kp ?_ (by rfl) (by rfl)) hdb)⟩
  show wpAny _ _ (spliced ((false, eval (.Lambda params body scope lpos) X.env) :: backTo pos (starEach [] X.env))) _ _ z
  refine Calls.spliced_cons (lam_make1 J TB hcode hmT hu rd.1 hdef hk0 he (L.has J.ok) (fun _ _ q => q) fun f t c' dv doc pm ctv G1 z' J1 ext tabs hf tIs rel fNo fFr tNo tFr isC => Calls.spliced_nil ⟨J1.kIn, ?_⟩)
  exact call_given (bs := [(b, dv)]) F bd S hN hva hG hr L run J1 hf fNo fFr isC (fun z1 keep => hbind z1 t dv _ _ _ _ _ _ (keep t _ tIs tNo tFr)) (fun y hy => by rw [List.mem_singleton.mp hy]; exact own) (rd.2 G1 ext tabs) hd hcd
end
section
variable {Z : Cx} {f c' : Addr} {a q : Str} {tl : XK → Hp → VK → Prop}
/-- a() as a statement, where what it may let out is chosen at the reading -/
theorem ps_asked {pn : List (Addr × Obj)} {xe : Value → Shared → Prop} {W : WX} {p1 p2 p3 : Pos}
    (act : ∀ (W : WX) (pn : List (Addr × Obj)) (xe : Value → Shared → Prop) (E : XK) (p1 p2 : Pos), Takes (Z.tr pn xe) W →
      PE (Z.tr pn xe) (.Call (.Name a p1) [] [] p2) (fun σZ HZ Q => σZ[0]? = some (some (.ref f)) ∧ HZ c' = some (CodeO c' q) ∧ (∀ cls d H', E cls d H' → W cls d σZ H') ∧ tl E HZ Q)) (tk : Takes (Z.tr pn xe) W) :
    PS (Z.tr pn xe) (.Expr (.Call (.Name a p1) [] [] p2) p3) (fun D σ H => ∃ E : XK, σ[0]? = some (some (.ref f)) ∧ H c' = some (CodeO c' q) ∧ (∀ cls d H', E cls d H' → W cls d σ H') ∧ tl E H fun _ H1 => D.nx σ H1) :=
  ⟨fun ps z τ G D J rd => by
    obtain ⟨E, rd⟩ := rd
    exact (ps_expr (act W pn xe E p1 p2 tk)).run ps z τ G D J rd⟩
end
end TG
set_option maxHeartbeats 400000
/-! the end of a law whose defs make lambdas: tables of code objects, the promise by FnG -/
namespace TG
open PySem PySem.Spec L2 LamX
open PyProof.Rows hiding St
section
/-- the head, where the tables at cs are told among the objects -/
theorem law_goGT {P : Program} {w : World} {K : PySem.W.Frag} {mg mb : Str → Option Value} {k : Nat} {fa a : Addr} {cs : List (Addr × Addr)} {fd : FuncData} {x : Str} {sp : Sp} {z : Shared} {vs : List Value} {ns : List Int}
    (KX : K.In z.heap) (hns : z.heap.Ns mainGlobals mg) (hb : z.heap.Ns builtinsNs mb) (hbb : ∀ x : Str, x ≠ "__name__" → mb x = bootBuiltins x) (hlim : z.heap.NoLimit) (hg : z.gens = #[])
    (tabs : ∀ p ∈ cs, PySem.W.CodeHd z.heap p.1 p.2 ∧ z.heap.get? p.2 = some (PySem.W.tabObj #[])) (nT : ∀ p ∈ cs, K.lookup p.2 = none)
    (hbm : ∃ (bm : Addr) (ob : Obj), mg "__builtins__" = some (.ref bm) ∧ bm ≠ builtinsNs ∧ z.heap.get? bm = some ob ∧ ob.cls = .type "module" ∧ ob.dict = some builtinsNs ∧ ob.data = .plain)
    (ha : z.heap.get? a = some { cls := .type "list", data := .seq vs.toArray }) (hi : IntsAre vs ns) (hl : ns.length ≤ sizeLine) (hr : RoomG k callerA)
    (F : ∀ base : Heap, K.In base → base.Ns mainGlobals mg → (∀ p ∈ cs, TabB base mg p.1 p.2) → FnG P w K mg base CX0 k fa fd [x] sp) (hbind : ∀ (s : Shared) (u : Value), BindsTo s fd ⟨[u], []⟩ [(x, u)])
    (hsp : ∀ H : Hp, (∀ p ∈ cs, H p.2 = some (.tbl #[])) → SqL K H a (ns.map V.int) → sp [.ref a] H (fun v _ => v = .bl true) fun _ _ _ => False) :
    codeAny (model P w) callerA (.call (.ref fa) ⟨[.ref a], []⟩) (fun r s' => r = .ok (.ret (.bool true)) ∧ OldK z.heap s'.heap ∧ s'.os = z.os ∧ AllBare s'.gens) z := by
  have rv := vals_ints hi
  have isTab : ∀ b, (∃ p ∈ cs, b = p.2) → z.heap.get? b = some (PySem.W.tabObj #[]) := fun b ⟨p, hp, e⟩ => e ▸ (tabs p hp).2
  have aNot : ¬ ∃ p ∈ cs, a = p.2 := fun q => by
    have e := (isTab a q).symm.trans ha
    exact nomatch (show Data.fields #[] = Data.seq vs.toArray _ from congrArg Obj.data (Option.some.inj e))
  have run : ∀ G : Hp, (∀ p ∈ cs, G p.2 = some (.tbl #[])) → (∀ b, G b = none ∨ (∃ p ∈ cs, b = p.2) ∨ ∃ o xs, G b = some (.frz o (.lst xs))) → SqL K G a (ns.map V.int) → HOk P w G z.heap → (∀ b, G b ≠ none → b = a ∨ ∃ p ∈ cs, b = p.2) → (G a ≠ none → K.lookup a = none) →
      codeAny (model P w) callerA (.call (.ref fa) ⟨[.ref a], []⟩) (fun r s' => r = .ok (.ret (.bool true)) ∧ OldK z.heap s'.heap ∧ s'.os = z.os ∧ AllBare s'.gens) z := by
    intro G gT gO gS gok gA gK
    have inB : ∀ {b : Addr} {o : Obj}, z.heap.get? b = some o → G b = none → (hidT z.heap G).get? b = some o := fun e n => hidT_get e n
    have not : ∀ {b : Addr} {o : Obj}, z.heap.get? b = some o → o.cls ≠ .type "list" → o.cls ≠ .none → G b = none := fun {b o} e n1 n2 => by
      cases q : G b with
      | none => rfl
      | some u =>
        rcases gA b (by rw [q]; exact Option.some_ne_none _) with rfl | t
        · rw [ha] at e
          exact absurd (congrArg Obj.cls (Option.some.inj e)).symm n1
        · rw [isTab b t] at e
          exact absurd (congrArg Obj.cls (Option.some.inj e)).symm n2
    have free : ∀ {b : Addr} {o : Obj} {es : Array DictEntry} {ep : Nat}, z.heap.get? b = some o → o.data = .dict es ep → G b = none := fun {b o es ep} e d => by
      cases q : G b with
      | none => rfl
      | some u =>
        rcases gA b (by rw [q]; exact Option.some_ne_none _) with rfl | t
        · rw [ha] at e
          cases e
          exact nomatch (show Data.seq vs.toArray _ = Data.dict es ep from d)
        · rw [isTab b t] at e
          cases e
          exact nomatch (show Data.fields #[] = Data.dict es ep from d)
    have names : ∀ {b : Addr} {m : Str → Option Value}, z.heap.Ns b m → (hidT z.heap G).Ns b m := fun {b m} ⟨o, es, ep, e, d, r⟩ => ⟨o, es, ep, inB e (free e d), d, r⟩
    have kB : K.In (hidT z.heap G) := fun b o e => inB (KX b o e) (by
      cases q : G b with
      | none => rfl
      | some u =>
        rcases gA b (by rw [q]; exact Option.some_ne_none _) with rfl | ⟨p, hp, rfl⟩
        · have n := gK (by rw [q]; exact Option.some_ne_none _)
          exact nomatch n.symm.trans e
        · exact nomatch (nT p hp).symm.trans e)
    have md : Mod K mg (hidT z.heap G) := ⟨kB, names hns, ⟨mb, names hb, hbb⟩, let ⟨mc, h1, h2⟩ := hlim; ⟨mc, names h1, h2⟩⟩
    have tb : ∀ p ∈ cs, TabB (hidT z.heap G) mg p.1 p.2 := fun p hp => by
      have ⟨⟨o, us, fl, tf, fg, tg, inF, tx, tt, e1, e2, rest⟩, e3⟩ := tabs p hp
      have ⟨bm, ob, b1, b2, b3, b4, b5, b6⟩ := hbm
      have ⟨om, es, ep, m1, m2, _⟩ := hns
      refine ⟨⟨o, us, fl, tf, fg, tg, inF, tx, tt, inB e1 (not e1 (by rw [e2]; decide) (by rw [e2]; exact nofun)), e2, rest⟩, ⟨bm, ob, b1, b2, ?_, ?_, inB b3 (not b3 (by rw [b4]; decide) (by rw [b4]; exact nofun)), b4, b5, b6⟩, ?_⟩
      · rintro rfl
        rw [b3] at m1
        cases m1
        exact nomatch b6.symm.trans m2
      · rintro rfl
        rw [b3] at e3
        cases e3
        exact nomatch b6
      · intro q
        rw [← q, m1] at e3
        cases e3
        exact nomatch m2
    have e0 : Env0 P w K mg (hidT z.heap G) callerA [] z G := ⟨rfl, md, fun b o e => of_hidT e, Nat.le_of_eq (hidT_size _ _), trivial, (fun b q => nomatch (show b ∈ ([] : List Addr) from q)), gok, .of_eq hg⟩
    refine codeAny_mono ((F _ kB (names hns) tb).go callerA [] z G ⟨[.ref a], []⟩ [.ref a] [.ref a] _ _ hr e0 (hbind z (.ref a)) (.cons rfl .nil) (hsp G gT gS)) fun r s' h => ?_
    match r, h with
    | .error e, h => exact False.elim h
    | .ok .next, h => exact False.elim h
    | .ok .brk, h => exact False.elim h
    | .ok .cont, h => exact False.elim h
    | .ok (.ret u), h =>
      obtain ⟨v, G', os, bare, un, gok', r', q⟩ := h
      cases (show v = V.bl true from q)
      cases (show u = Value.bool true from r')
      have stays : ∀ b o, (¬ ∃ p ∈ cs, b = p.2) → z.heap.get? b = some o → s'.heap.get? b = some o := fun b o n e => by
        rcases gO b with q | q | ⟨ob, xs, q⟩
        · exact un.keep b o e q (fun z => nomatch (show b ∈ ([] : List Addr) from z)) List.not_mem_nil
        · exact absurd q n
        · have e1 := (gok b _ q).1
          have e2 := (gok' b _ (un.frzs b ob _ q)).1
          rw [e] at e1
          cases e1
          exact e2
      have grown : ∀ p ∈ cs, ∃ more : Array Value, s'.heap.get? p.2 = some { cls := .none, data := .fields more } := fun p hp => by
        have ⟨more, q⟩ := un.tbls p.2 #[] (gT p hp)
        exact ⟨_, gok' p.2 _ q⟩
      refine ⟨rfl, ⟨fun b o e => ?_, fun b o e => ?_⟩, os, bare⟩
      · by_cases t : ∃ p ∈ cs, b = p.2
        · have ⟨p, hp, hb⟩ := t
          have ⟨more, q⟩ := grown p hp
          rw [hb] at e ⊢
          have e2 := (tabs p hp).2
          rw [e] at e2
          cases e2
          exact .inr (.inl ⟨((tabs p hp).1.tab e).isCodeTable, rfl, #[], more, rfl, by rw [Array.empty_append]; exact q⟩)
        · exact .inl (stays b o t e)
      · by_cases t : ∃ p ∈ cs, b = p.2
        · have ⟨p, hp, hb⟩ := t
          have ⟨more, q⟩ := grown p hp
          exact ⟨_, hb ▸ q⟩
        · exact ⟨o, stays b o t e⟩
  let scr : HO := .frz { cls := .type "list", data := .seq vs.toArray } (.lst (ns.map V.int))
  have dec : ∀ b, Decidable (∃ p ∈ cs, b = p.2) := fun _ => inferInstance
  cases hk : K.lookup a with
  | some o =>
    have e := KX a o hk
    rw [ha] at e
    cases e
    refine run (fun b => if ∃ p ∈ cs, b = p.2 then some (.tbl #[]) else none) (fun p hp => if_pos ⟨p, hp, rfl⟩) (fun b => ?_) (.inr ⟨_, vs.toArray, _, hk, rfl, rfl, rfl, by rw [List.size_toArray, hi.length]; exact hl, by simpa using rv⟩) (fun b u q => ?_) (fun b q => ?_) fun q => absurd (if_neg aNot) q
    · by_cases t : ∃ p ∈ cs, b = p.2
      · exact .inr (.inl t)
      · exact .inl (if_neg t)
    · by_cases t : ∃ p ∈ cs, b = p.2
      · cases (if_pos t).symm.trans q
        exact isTab b t
      · exact nomatch (if_neg t).symm.trans q
    · by_cases t : ∃ p ∈ cs, b = p.2
      · exact .inr t
      · exact absurd (if_neg t) q
  | none =>
    refine run (fun b => if b = a then some scr else if ∃ p ∈ cs, b = p.2 then some (.tbl #[]) else none) (fun p hp => (if_neg fun q => aNot ⟨p, hp, q.symm⟩).trans (if_pos ⟨p, hp, rfl⟩)) (fun b => ?_) (.inl (.inr ⟨{ cls := .type "list", data := .seq vs.toArray }, if_pos rfl⟩)) (fun b u q => ?_) (fun b q => ?_) fun _ => hk
    · by_cases e : b = a
      · exact .inr (.inr ⟨_, _, if_pos e⟩)
      · by_cases t : ∃ p ∈ cs, b = p.2
        · exact .inr (.inl t)
        · exact .inl ((if_neg e).trans (if_neg t))
    · by_cases e : b = a
      · cases (if_pos e).symm.trans q
        subst e
        exact ⟨ha, by rw [List.length_map]; exact hl, vs, _, rv, ha⟩
      · by_cases t : ∃ p ∈ cs, b = p.2
        · cases ((if_neg e).trans (if_pos t)).symm.trans q
          exact isTab b t
        · exact nomatch ((if_neg e).trans (if_neg t)).symm.trans q
    · by_cases e : b = a
      · exact .inl e
      · by_cases t : ∃ p ∈ cs, b = p.2
        · exact .inr t
        · exact absurd ((if_neg e).trans (if_neg t)) q
/-- the goal that the head leaves; the law's text tells its makers of lambdas by name: qs -/
theorem walk_ofGT {l : PySem.W.OpenLaw} {n k : Nat} {q : Program} {loose : List Str} {XP : (Str → Option Value) → Heap → Prop} {YP : World → Heap → Prop} {d : DefRec} {K : Params → PySem.W.Frag} {sp : World → List (Addr × Addr) → Sp} {x : Str}
    (hn : l.most = some n) (hn2 : n ≤ sizeLine) (hdf : d.params.defaults = []) (hr : RoomG k callerA) (hY : ∀ (w : World) (h : Heap), YP w h → (K w.params).In h)
    (F : ∀ (w : World) (mg : Str → Option Value) (fa : Addr) (h : Heap), (K w.params).In h → h.Ns mainGlobals mg → mg d.name = some (.ref fa) →
      ∃ (fd : FuncData) (qs : List (Str × Addr × Addr)), (∀ e ∈ qs, ((recsOf q).find? (fun r => r.name == e.1)).isSome = true ∧ PySem.W.tabIn (K w.params) e.1 = some e.2 ∧ (K w.params).lookup e.2.2 = none) ∧ (∀ (s : Shared) (u : Value), BindsTo s fd ⟨[u], []⟩ [(x, u)]) ∧
        (∀ (H : Hp) (a : Addr) (ns : List Int), ns.length ≤ n → (∀ e ∈ qs, H e.2.2 = some (.tbl #[])) → SqL (K w.params) H a (ns.map V.int) → sp w (qs.map (·.2)) [.ref a] H (fun v _ => v = .bl true) fun _ _ _ => False) ∧
        ∀ base : Heap, (K w.params).In base → base.Ns mainGlobals mg → (∀ e ∈ qs, TabB base mg e.2.1 e.2.2) → FnG l.prog w (K w.params) mg base CX0 k fa fd [x] (sp w (qs.map (·.2)))) :
    PySem.W.WalkO q loose XP YP l.row.toRowW d [] (fun f vs => PySem.call f vs) := by
  refine Att.attach_call hn hdf fun w s₀ s₁ mg mb fa o pm cd doc a vs ns G Y ho hd hcd hmg hobj hints hlen hg => ?_
  have KX := hY w _ Y
  obtain ⟨fd, qs, hq, hb, hsp, hF⟩ := F w mg fa _ KX G.T.g hmg
  refine law_goGT (cs := qs.map (·.2)) KX G.T.g G.T.b G.T.builtins G.T.nolimit hg (fun p hp => ?_) (fun p hp => ?_) ?_ hobj hints (Nat.le_trans hlen hn2) hr (fun base h1 h2 h3 => hF base h1 h2 fun e he => h3 e.2 (List.mem_map.mpr ⟨e, he, rfl⟩)) hb fun H hT hS => hsp H a ns hlen (fun e he => hT e.2 (List.mem_map.mpr ⟨e, he, rfl⟩)) hS
  · obtain ⟨e, he, rfl⟩ := List.mem_map.mp hp
    have ⟨h1, h2, _⟩ := hq e he
    have ⟨r, hr⟩ := Option.isSome_iff_exists.mp h1
    exact PySem.W.tab_of G.T KX hr h2
  · obtain ⟨e, he, rfl⟩ := List.mem_map.mp hp
    exact (hq e he).2.2
  · have ⟨bm, ob, h1, h2, h3, h4, h5, h6⟩ := G.T.bmain
    exact ⟨bm, ob, h1, h2, h3, h4, h5, h6⟩
end
end TG
set_option maxHeartbeats 400000
/-! own rules: x is x of one object, the truth of an instance by its own def, == and != of data 202 deep, a call by keywords whose raise is let out -/
namespace TG
open PySem PySem.Spec L2
open PyProof.Rows hiding St
section
variable {X : Cx}
def rIsOne : R2 := fun x y H Q => ∃ a : Addr, x = .ref a ∧ y = .ref a ∧ Q (.bl true) H
theorem op_isOne : OpR X (compareOp .Is) rIsOne := by
  rintro ps z τ G _ _ v u Q J rx ry ⟨a, rfl, rfl, q⟩
  cases (show v = Value.ref a from rx)
  cases (show u = Value.ref a from ry)
  show wpAny _ _ (do return Value.bool (← isSame (.ref a) (.ref a))) _ _ z
  have one : isSame (.ref a) (.ref a) = pure true := by
    unfold isSame
    exact if_pos (beq_self_eq_true a)
  rw [one]
  exact wpAny_bind (wpAny_pure (wpAny_pure ⟨.bl true, G, J, rfl, q⟩))
/-- an instance with its own __bool__ -/
def rTruOwn (K : PySem.W.Frag) (C : Addr) (sp : Sp) : V → Hp → (Bool → Hp → Prop) → Prop := fun x H Q => ∃ (a dx : Addr) (fs : List (Str × V)), x = .ref a ∧ H a = some (.ins C dx fs) ∧ sp [.ref a] H (fun v H' => ∃ b, v = .bl b ∧ Q b H') E0
theorem tru_own {C f : Addr} {fd : FuncData} {qs : List Str} {sp : Sp} {k : Nat} (F : FnG X.prog X.w X.K X.mg X.base CX0 k f fd qs sp) (bd : Binds X.K fd qs []) (hs : PySem.W.findIn X.K (.ref C) "__bool__" = some (some (.ref f))) (hf : PySem.W.typeIn X.K (.ref f) = some (.type "function")) (hr : RoomG k X.A) : TruR X (rTruOwn X.K C sp) := by
  rintro ps z τ G _ v Q J rx ⟨a, dx, fs, rfl, at_, rd⟩
  cases (show v = Value.ref a from rx)
  have ⟨mA, O, _⟩ := ins_get J.hok at_
  have ⟨od, I, _⟩ := O.look
  have n := F.len _ _ _ _ rd
  have to : wpAny (model X.prog X.w) X.A (call (.ref f) [.ref a]) (EP X ps τ fun v H' => ∃ b, v = .bl b ∧ Q b H') X.xe z :=
    run_fnG (us := [.ref a]) (vs := [.ref a]) (ks := []) (ws := []) (zs := []) F hr (binds_kb bd) pass0 J (.cons rfl .nil) .nil n rfl rd
  have key : wpAny (model X.prog X.w) X.A (callSpecial? (.ref a) (Str.ofString "__bool__")) (fun r s' => ∃ b, r = some (.bool b) ∧ TP X ps τ Q b s') X.xe z := by
    refine PySem.W.special_fn J.kIn I hs hf (wpAny_mono to (fun r s' h => ?_) fun _ _ e => e)
    obtain ⟨w, H', J', rw_, b, rfl, q⟩ := h
    cases (show r = Value.bool b from rw_)
    exact ⟨b, rfl, H', J', q⟩
  unfold truthy
  first
    | exact wpAny_bind (wpAny_mono key (fun r s' h => by obtain ⟨b, rfl, q⟩ := h; exact wpAny_pure q) fun _ _ e => e)
    | exact wpAny_bind (wpAny_pure (wpAny_bind (wpAny_mono key (fun r s' h => by obtain ⟨b, rfl, q⟩ := h; exact wpAny_pure q) fun _ _ e => e)))
theorem room_dd {k : Nat} {A : Around} (h : Room (k + 1) A) : A.units + 203 < cLine := by have := h.un; omega
theorem roomG_dd {k : Nat} {A : Around} (h : RoomG (k + 1) A) : A.units + 203 < cLine := by have := h.un; omega
def rEqDD (K : PySem.W.Frag) : R2 := fun x y H Q => ∃ d e, Dp K H x d ∧ Dp K H y e ∧ d.canLay0 = true ∧ e.canLay0 = true ∧ d.depth ≤ 202 ∧ Q (.bl (PyData.eqv d e)) H
theorem op_eqDD (hu : X.A.units + 203 < cLine) : OpR X (compareOp .Eq) (rEqDD X.K) := by
  rintro ps z τ G x y v u Q J rx ry ⟨d, e, hd, he, sd, se, dd, q⟩
  have ⟨_, r1⟩ := Dp.reads J d x v hd rx
  have ⟨_, r2⟩ := Dp.reads J e y u he ry
  have le : min d.depth e.depth ≤ d.depth := Nat.min_le_left _ _
  exact SeqAt.compareEq_reads r1 r2 sd se (by omega) ⟨.bl _, G, J, rfl, q⟩
def rNeDD (K : PySem.W.Frag) : R2 := fun x y H Q => ∃ d e, Dp K H x d ∧ Dp K H y e ∧ d.canLay0 = true ∧ e.canLay0 = true ∧ d.depth ≤ 202 ∧ Q (.bl (!PyData.eqv d e)) H
theorem op_neDD (hu : X.A.units + 203 < cLine) : OpR X (compareOp .NotEq) (rNeDD X.K) := by
  rintro ps z τ G x y v u Q J rx ry ⟨d, e, hd, he, sd, se, dd, q⟩
  have ⟨_, r1⟩ := Dp.reads J d x v hd rx
  have ⟨_, r2⟩ := Dp.reads J e y u he ry
  have le : min d.depth e.depth ≤ d.depth := Nat.min_le_left _ _
  exact SeqAt.compareNe_reads r1 r2 sd se (by omega) ⟨.bl _, G, J, rfl, q⟩
end
section
variable {X : Cx} {CX : CXT} {k j : Nat} {f : Addr} {fd : FuncData} {qs ks : List Str} {sp : Sp} {x : Str} {p pos : Pos} {kws : List Keyword} {tk : L2.TA} {E : XK} {g : List Value → List Value → List Value} {gV : List V → List V → List V}
theorem pe_kwG (F : FnG X.prog X.w X.K X.mg X.base CX k f fd qs sp) (B : KBn X.K fd qs 0 ks g gV) (hr : RoomG j X.A) (hj : k ≤ j) (hm : X.mg x = some (.ref f)) (hk : PySem.W.keepIn X.K (.ref f) = true) (lets : Passes CX X E) (args : PK X kws tk) (hg : Gl X x := by rfl)
    (all : (backToKw pos (keywordEach kws X.env)).all (·.1.isSome) = true := by rfl) (names : (backToKw pos (keywordEach kws X.env)).filterMap (·.1) = ks := by rfl)
    (nd : (x == ("__debug__" : Str)) = false := by decide) (pl : ((backTo pos (starEach [] X.env)).any (·.1) || (backToKw pos (keywordEach kws X.env)).any (·.1.isNone)) = false := by rfl) :
    PE X (.Call (.Name x p) [] kws pos) (tCallN 0 ks.length sp gV E tNil tk) := by
  refine ⟨fun ps z τ G Q J rd => wpAny_Call_Name_kw (ld_glob J hg hm (PySem.W.callWith_KW0 (h₀ := X.base) J.mod.kin hk all (thn (args.run pos ps z τ G _ J rd) ?_) pl) nd)⟩
  rintro ws z2 ⟨zs, H2, J2, rz, l1, l2, q⟩
  refine ⟨J2.kIn, ?_⟩
  rw [names]
  exact run_fnG (us := []) (vs := []) F (hr.mono hj) B lets J2 .nil rz rfl (rz.length.symm.trans l2) q
end
end TG
set_option maxHeartbeats 400000
/-! the rule for a def that makes lambdas: its code object is known; tables behind what is kept but at one list -/
namespace TG
open PySem PySem.Spec L2 LamX
open PyProof.Rows hiding St
section
variable {P : Program} {w : World} {K : PySem.W.Frag} {mg : Str → Option Value} {base : Heap}
theorem fun_okGC {c : Addr} {x qual : Str} {st : Stmt} {f : Addr} {fd : FuncData} {N ps : List Str} {k : Nat} {sp : Sp} (F : Fun K x qual st f fd) (hc : fd.code = .ref c) (S : FnScope N ps (defScope st)) (len : ∀ vs H Q E, sp vs H Q E → vs.length = ps.length)
    (hbody : ∀ (A : Around) (outer : List Env) (s : Shared) (H : Hp) (vs : List V) (Q : VK) (E : XK), RoomG k (A.deeper (envOfC qual (defScope st) s.heap.objs.size f (.ref c))) → sp vs H Q E →
      ∃ t, PSs (cxOf CX0 P w K mg base N qual (defScope st) f (.ref c) A outer s H E).nox (defBody st) t ∧ t { nx := fun _ H' => Q .non H', rt := Q } (start N vs) H) : FnG P w K mg base CX0 (k + 1) f fd ps sp := by
  obtain ⟨oc, od, kV, doc, pm, an, cdv, ct, osl, rfl, lk, hcd⟩ := F.ex
  cases (show cdv = .ref c from hc)
  refine ⟨len, fun A outer s H args us vs Q E hr e0 hb r hsp => ?_⟩
  have hl := len _ _ _ _ hsp
  have kin : K.In s.heap := e0.mod.kin.keeps fun b o e => (e0.bs b o e).1
  have hlim : s.heap.NoLimit := e0.mod.nolimit.keeps fun b o e => (e0.bs b o e).1
  have kinds : ∀ y ∈ ps.zip us, (defScope st).names.lookup y.1 = some .local ∨ ((defScope st).names.lookup y.1 = some .cell ∧ ((cellsFrom (s.heap.objs.size + 1) (defScope st).names []).lookup y.1).isSome = true) := by
    rintro ⟨n, v⟩ hy
    exact (S.par n (List.of_mem_zip hy).1).elim .inl fun z => .inr ⟨z, PySem.W.cellsFrom_some _ _ _ (.inl z)⟩
  refine codeAny_call_function hr.depth (kin _ _ lk) rfl S.co S.gen rfl (PySem.W.codeRec_of kin hcd) (hb _ _ _ _ ?_)
  refine wpAny_newFunctionEnv_cells S.kind kinds fun env he s1 z => ?_
  subst he
  refine ⟨hlim.keeps z.toInCall.keep, codeAny_func ?_⟩
  obtain ⟨t, ht, hq⟩ := hbody A outer s H vs Q E (hr.down _) hsp
  have I : Inv (cxOf CX0 P w K mg base N qual (defScope st) f (.ref c) A outer s H E) [] (start N vs) H s1 := inv_start S hr.hd e0 hl r z
  refine wpAny_mono (ht.nox.run [] s1 (start N vs) H _ I hq) (fun fl s' hs => ?_) fun e s' hs => hs
  have done : ∀ {τ : L2.St} {G : Hp} {v : V} {u : Value}, Inv (cxOf CX0 P w K mg base N qual (defScope st) f (.ref c) A outer s H E) [] τ G s' → RelV v u → Q v G → CE outer P w H s Q u s' :=
    fun {τ G v u} J rv q => ⟨v, G, J.os, J.bare, J.base, J.hok, rv, q⟩
  match fl, hs with
  | .ret u, hs =>
    obtain ⟨v, τ, G, J, rv, q⟩ := hs
    exact done J rv q
  | .next, hs =>
    obtain ⟨τ, G, J, q⟩ := hs
    exact done (v := V.non) (u := Value.none) J rfl q
  | .brk, ⟨_, _, _, q⟩ => exact q.elim
  | .cont, ⟨_, _, _, q⟩ => exact q.elim
end
/-- all is kept but what is at p, and tables -/
def KeepT (p : Addr) (H H' : Hp) : Prop := ∀ b o, b ≠ p → (∀ ps, o ≠ .tbl ps) → H b = some o → H' b = some o
theorem KeepT.trans {p : Addr} {H H1 H2 : Hp} (a : KeepT p H H1) (b : KeepT p H1 H2) : KeepT p H H2 := fun c o n t h => b c o n t (a c o n t h)
theorem KeepT.of {p : Addr} {H H' : Hp} (k : ∀ b o, b ≠ p → H b = some o → H' b = some o) : KeepT p H H' := fun c o n _ h => k c o n h
theorem KeepT.ext {p : Addr} {H H' : Hp} (k : ExtN H H') : KeepT p H H' := fun c o _ t h => k c o h t
theorem tbl_ne_tup {xs : List V} : ∀ ps, HO.tup xs ≠ .tbl ps := fun ps z => by cases z
theorem tbl_ne_lst {xs : List V} : ∀ ps, HO.lst xs ≠ .tbl ps := fun ps z => by cases z
theorem extn_tup {H H' : Hp} (k : ExtN H H') {a : Addr} {xs : List V} (h : H a = some (.tup xs)) : H' a = some (.tup xs) := k a _ h tbl_ne_tup
theorem extn_lst {H H' : Hp} (k : ExtN H H') {a : Addr} {xs : List V} (h : H a = some (.lst xs)) : H' a = some (.lst xs) := k a _ h tbl_ne_lst
/-- tables stay where one list is written over -/
theorem tabs_keep {T : List (Addr × Str)} {p : Addr} {xs : List V} {H H' : Hp} (t : Tabs T H) (hp : H p = some (.lst xs)) (k : ∀ b o, b ≠ p → H b = some o → H' b = some o) : Tabs T H' := fun y hy => by
  obtain ⟨ps, h1, h2, h3⟩ := t y hy
  refine ⟨ps, k _ _ (fun z => ?_) h1, h2, fun pos cv hc => ?_⟩
  · rw [z, hp] at h1
    cases h1
  · obtain ⟨c, e1, e2⟩ := h3 pos cv hc
    refine ⟨c, e1, k _ _ (fun z => ?_) e2⟩
    rw [z, hp] at e2
    cases e2
end TG
set_option maxHeartbeats 400000
/-! own rule: try: BODY / except C as n: m = n.f / further clauses; whatever BODY raises, the first clause catches it -/
namespace TG
open PySem PySem.Spec L2
open PyProof.Rows hiding St
section
variable {X : Cx} {n m f : Str} {i j : Nat} {x C dd : Addr} {ob : Obj} {pn : List (Addr × Obj)}
/-- n.f in the suite -/
theorem pe_pin {p2 p4 : Pos} (hz : Zc (.ref C) (some dd) ob) (hf : ∃ us, ob.data = .fields us) (T : L2.ExcC X.K C) (none_ : PySem.W.findIn X.K (.ref C) f = some none) (hi : X.N[i]? = some n) (hln : X.env.kindOf n = some .local)
    (hnd : (n == ("__debug__" : Str)) = false) (hncd : (n == ("__classdict__" : Str)) = false) (hb : attributeBase (.Name n p2) f X.env (eval (.Name n p2) X.env) = eval (.Name n p2) X.env) :
    PE (X.suite x ((x, ob) :: pn)) (.Attribute (.Name n p2) f p4) (fun σ H Q => σ[i]? = some (some (.ref x)) ∧ ∃ fs v, H dd = some (.xd fs) ∧ fs.lookup f = some v ∧ Q v H) := by
  refine ⟨fun ps z τ G Q J rd => attr_of hb (thn ((pe_var (X := X.suite x ((x, ob) :: pn)) (pos := p2) (i := i) hi (.inl hln) hnd hncd).run ps z τ G (fun v H1 => v = .ref x ∧ G = H1) J ⟨_, rd.1, rfl, rfl⟩) ?_)⟩
  rintro u z1 ⟨_, G1, J1, ru, rfl, eG⟩
  subst eG
  cases (show u = Value.ref x from ru)
  obtain ⟨fs, v, e2, hv, q⟩ := rd.2
  have there : z1.heap.get? x = some ob := (J1.pin (x, ob) (List.mem_append_left _ List.mem_cons_self)).1
  have ⟨look, ns, rel⟩ : ObjOk X.prog X.w G z1.heap dd (.xd fs) := J1.hok dd _ e2
  have ⟨od, hod, hl⟩ := lookIn_ns ns
  obtain ⟨us, dat⟩ := hf
  have inst : PySem.W.InstAt z1.heap x ob C (some od) := ⟨there, hz.1, by unfold PySem.W.notCls; rw [dat] <;> rfl, by rw [hz.2]; exact hod⟩
  have ⟨w, hw, rw_⟩ := RelO.some_of (v := v) (o := look f) (hv ▸ rel f)
  exact HandSPX.exc_get J1.kIn inst T.hg T.hk T.hs (PySem.W.findObj_own T.hd none_ rfl (by rw [hl, hw])) (handed_of rw_) ⟨v, G, J1.tok _, rw_, q⟩
end
section
variable {X : Cx} {y n m f : Str} {c : Value} {i j : Nat} {body : List Stmt} {hds : List ExceptHandler} {ny pos pos' p1 p2 p3 p4 : Pos} {tb : WX → TS} {Wout : WX}
def wTell (K : PySem.W.Frag) (c : Value) (f : Str) (i j : Nat) (D : Ends) : WX := fun cls d σ H =>
  PySem.W.exmOne K cls c = some true ∧ ∃ C dd fs v, cls = .ref C ∧ d = some dd ∧ L2.ExcC K C ∧ PySem.W.findIn K (.ref C) f = some none ∧ H dd = some (.xd fs) ∧ fs.lookup f = some v ∧ ∀ a, D.nx (((σ.set i (some (.ref a))).set j (some v)).set i none) H
theorem tell_run {ps : List (Addr × Obj)} {τ : L2.St} {G : Hp} {z : Shared} {x C dd : Addr} {ob : Obj} {v : V} {fs : List (Str × V)} (hN : X.N.Nodup) (hi : X.N[i]? = some n) (hj : X.N[j]? = some m) (hln : X.env.kindOf n = some .local) (hlm : X.env.kindOf m = some .local) (hnd : (n == ("__debug__" : Str)) = false) (hncd : (n == ("__classdict__" : Str)) = false)
    (hb : attributeBase (.Name n p2) f X.env (eval (.Name n p2) X.env) = eval (.Name n p2) X.env) (hsw : swapsWith (.Attribute (.Name n p2) f p4) (some (.Name m p1)) p3.line X.env = pure false)
    (hz : Zc (.ref C) (some dd) ob) (hf : ∃ us, ob.data = .fields us) (T : L2.ExcC X.K C) (none_ : PySem.W.findIn X.K (.ref C) f = some none) (hv : fs.lookup f = some v) (e2 : G dd = some (.xd fs))
    (J : Inv (X.suite x ((x, ob) :: (X.pn ++ ps))) [] τ G z) (at_ : τ[i]? = some (some (.ref x))) :
    wpAny (model X.prog X.w) (X.A.mark (some (.ref x))) (execs [.Assign [.Name m p1] (.Attribute (.Name n p2) f p4) p3] X.env) (fun f z' => f = .next ∧ Inv (X.suite x ((x, ob) :: (X.pn ++ ps))) [] (τ.set j (some v)) G z') (fun _ _ => False) z := by
  have rule := pss_one (ps_set (X := X.suite x ((x, ob) :: (X.pn ++ ps))) (pos := p3) (pos' := p1) (i := j) hN hj (.inl hlm) (pe_pin (x := x) (ob := ob) (p4 := p4) (pn := X.pn ++ ps) hz hf T none_ hi hln hnd hncd hb) (hf := .inr hlm) (hs := hsw))
  refine wpAny_mono (rule.run [] z τ G { nx := fun τ' G' => τ' = τ.set j (some v) ∧ G' = G, rt := fun _ _ => False, bk := fun _ _ => False, ct := fun _ _ => False } J ⟨at_, fs, v, e2, hv, rfl, rfl⟩) (fun f z' q => ?_) fun _ _ q => q
  match f, q with
  | .next, ⟨_, _, J', e1, e2⟩ => exact ⟨rfl, e1 ▸ e2 ▸ J'⟩
  | .brk, ⟨_, _, _, q⟩ => exact q.elim
  | .cont, ⟨_, _, _, q⟩ => exact q.elim
  | .ret _, ⟨_, _, _, _, _, q⟩ => exact q.elim
theorem unpin {ps : List (Addr × Obj)} {τ : L2.St} {G : Hp} {z : Shared} {r : Addr × Obj} (J : Inv X (r :: ps) τ G z) : Inv X ps τ G z :=
  ⟨J.ok, J.os, J.bare, J.base, J.loc, J.cell, J.free, J.freeC, fun q hq => J.pin q (by
    rw [List.mem_append] at hq ⊢
    exact hq.imp id (List.mem_cons_of_mem _)), J.hok, J.len⟩
theorem ps_try_tell (hstk : X.stack = X.env :: X.outer) (hfrm : X.env.frame = some X.env.locals) (hex : X.ex = []) (hN : X.N.Nodup) (hi : X.N[i]? = some n) (hj : X.N[j]? = some m) (hln : X.env.kindOf n = some .local) (hlm : X.env.kindOf m = some .local) (hc : Names X y c)
    (hb : ∀ (W : WX) (pn : List (Addr × Obj)) (xe : Value → Shared → Prop), Takes (X.tr pn xe) W → PassesOwn (model X.prog X.w) X.A X.env xe → PSs (X.tr pn xe) body (tb W)) (hnd : (n == ("__debug__" : Str)) = false := by decide) (hncd : (n == ("__classdict__" : Str)) = false := by decide)
    (hat : attributeBase (.Name n p2) f X.env (eval (.Name n p2) X.env) = eval (.Name n p2) X.env := by rfl) (hsw : swapsWith (.Attribute (.Name n p2) f p4) (some (.Name m p1)) p3.line X.env = pure false := by rfl) :
    PS X (.Try body (.ExceptHandler (some (.Name y ny)) (some n) [.Assign [.Name m p1] (.Attribute (.Name n p2) f p4) p3] pos' :: hds) [] [] pos) (fun D σ H => tb (wTell X.K c f i j D) D σ H) := by
  refine ⟨fun ps z τ G D J rd => wpAny_Try_except ?_⟩
  have frames : X.A.frames = some (X.env :: X.outer) := by rw [← hstk]; exact J.ok.frames
  refine wpAny_mono ((hb (wTell X.K c f i j D) (X.pn ++ ps) (fun err z1 => wpAny (model X.prog X.w) X.A (noteFrame err X.env) (fun _ z2 => wpAny (model X.prog X.w) X.A (setFlight err none)
    (fun _ z3 => wpAny (model X.prog X.w) X.A (handleBy err X.env (.ExceptHandler (some (.Name y ny)) (some n) [.Assign [.Name m p1] (.Attribute (.Name n p2) f p4) p3] pos' :: hds)) (SP X ps D) X.xe z3) X.xe z2) X.xe z1) ?air PassesOwn.looking).run [] z τ G D (J.toTry _) rd) (fun f z1 q => ?done) fun _ _ q => q
  case done =>
    match f, q with
    | .next, ⟨τ1, G1, J1, q1⟩ => exact wpAny_execs_nil ⟨τ1, G1, J1.ofTry J.ok, q1⟩
    | .brk, ⟨τ1, G1, J1, q1⟩ => exact ⟨τ1, G1, J1.ofTry J.ok, q1⟩
    | .cont, ⟨τ1, G1, J1, q1⟩ => exact ⟨τ1, G1, J1.ofTry J.ok, q1⟩
    | .ret u, ⟨v1, τ1, G1, J1, r1, q1⟩ => exact ⟨v1, τ1, G1, J1.ofTry J.ok, r1, q1⟩
  case air =>
    rintro _ z1 ⟨x, B, zI, ps1, τ1, G1, cls, d, rfl, JT, ground, up, sky, gx, same, bare, asked, C, dd, fs, v, rfl, rfl, ec, none_, hdd, hv, after⟩
    have JI : Inv X ps τ1 G1 zI := JT.ofTry J.ok
    rw [show (X.tr (X.pn ++ ps) _).stack = X.stack from rfl] at ground
    have sky1 : Sky B (X.env :: X.outer) x (Zc (.ref C) (some dd)) X.env.locals z1.heap := by rw [← hstk]; exact sky
    refine Sky.land Zc.steady frames hfrm sky1 fun hp2 fly2 up2 => ?_
    have J2 : Inv X ps τ1 G1 { z1 with heap := hp2 } := JI.landed ground fly2.1 (up.trans up2) same bare
    have ⟨o2, us2, at2, zc2, dat2⟩ := fly2.there
    have nf : x ∉ frs (X.env :: X.outer) := not_frs fly2.2.2.1 at2 dat2
    have nloc : x ≠ X.env.locals := by
      rintro rfl
      exact nf (List.mem_filterMap.mpr ⟨_, List.mem_cons_self, hfrm⟩)
    have nfs : x ∉ X.fs := fun mm => by
      have ⟨en, me, q⟩ := List.mem_filterMap.mp mm
      exact nf (List.mem_filterMap.mpr ⟨en, .tail _ me, q⟩)
    have ⟨new0, newP⟩ := air_new JI hex ground fly2.2.1 (by rw [hstk]; exact nf)
    have S2 := J2.suite at2 dat2 gx nloc nfs
    have looks : PySem.W.Looks (model X.prog X.w) hp2 (typeOf (.ref x)) (.ref C) := fun _ _ _ _ k q => wpAny_typeOf_ref (k _ _ at2) (by rw [zc2.1]; exact q)
    have ask := PySem.W.exm_one (M := model X.prog X.w) J2.kIn looks asked
    refine wpAny_handleBy_cons (codeAny_handlers_test ?_) (fun w => nomatch w)
    have named : ∀ {Q : Value → Shared → Prop} {E : Value → Shared → Prop}, Q c { z1 with heap := hp2 } → wpAny (model X.prog X.w) (X.A.mark (some (.ref x))) (eval (.Name y ny) X.env) Q E { z1 with heap := hp2 } := by
      intro Q E q
      obtain ⟨g1, g2, g3 | ⟨g3, g4, g5⟩⟩ := hc
      · exact ld_glob S2 g1 g3 q g2
      · exact ld_blt S2 g1 g3 g4 q g5 g2
    refine named (ask.here ?_)
    refine codeAny_handlers_suite_as (HandSPX.lands_againZ fly2 fun hp3 fly3 up3 => ?_)
    have ⟨o3, us3, at3, zc3, dat3⟩ := fly3.there
    have S3 := (JI.landed (s' := { z1 with heap := hp3 }) ground fly3.1 ((up.trans up2).trans up3) same bare).suite at3 dat3 gx nloc nfs
    refine store_ok (X := X.suite x _) (v := V.ref x) S3 hN hi (.inl hln) rfl (fun z4 S4 => ?_) (.inr hln)
    refine wpAny_mono (tell_run hN hi hj hln hlm hnd hncd hat hsw zc3 ⟨_, dat3⟩ ec none_ hv hdd S4 (by rw [List.getElem?_set_self (by rw [JI.len]; exact (List.getElem?_eq_some_iff.mp hi).1)])) (fun f z5 q => ?_) fun _ _ q => q.elim
    obtain ⟨rfl, S5⟩ := q
    exact gone_ok (unsuite_hold S5 J.ok) hN hi hln fun z6 J6 => ⟨_, _, unpin J6, after x⟩
end
end TG
set_option maxHeartbeats 400000
/-! own rule: xs <= ys of two lists of integers -/
namespace TG
open PySem PySem.Spec L2
open PyProof.Rows hiding St
theorem first_map {e r : Nat → Bool} {z : Bool} (g : Nat → Nat) : ∀ l : List Nat, SeqAt.firstLt e r z (l.map g) = SeqAt.firstLt (fun i => e (g i)) (fun i => r (g i)) z l
  | [] => rfl
  | i :: l => by
    show (if e (g i) = true then SeqAt.firstLt e r z (l.map g) else r (g i)) = if e (g i) = true then _ else _
    rw [first_map g l]
theorem first_le : ∀ ns ms : List Int, SeqAt.firstLt (fun j => decide (ns.getD j 0 = ms.getD j 0)) (fun j => decide (ns.getD j 0 ≤ ms.getD j 0)) (decide (ns.length ≤ ms.length)) (List.range (min ns.length ms.length)) = !HT.lexLt ms ns
  | [], ms => by
    rw [show min ([] : List Int).length ms.length = 0 from Nat.zero_min _]
    cases ms <;> rfl
  | x :: xs, [] => rfl
  | x :: xs, y :: ys => by
    have ih := first_le xs ys
    rw [show min (x :: xs).length (y :: ys).length = min xs.length ys.length + 1 from Nat.succ_min_succ _ _, List.range_succ_eq_map]
    show (if decide (x = y) = true then SeqAt.firstLt _ _ _ ((List.range (min xs.length ys.length)).map Nat.succ) else decide (x ≤ y)) = !(if y = x then HT.lexLt ys xs else decide (y < x))
    by_cases c : x = y
    · rw [decide_eq_true c, if_pos rfl, if_pos c.symm, first_map, ← ih]
      congr 1
      show decide (xs.length + 1 ≤ ys.length + 1) = _
      rw [decide_eq_decide]
      omega
    · rw [decide_eq_false c, if_neg Bool.false_ne_true, if_neg (Ne.symm c)]
      by_cases d : x ≤ y
      · rw [decide_eq_true d, decide_eq_false (by omega)]; rfl
      · rw [decide_eq_false d, decide_eq_true (by omega)]; rfl
def rLeL (K : PySem.W.Frag) : R2 := fun x y H Q => ∃ (a b : Addr) (ns ms : List Int), x = .ref a ∧ y = .ref b ∧ SqL K H a (ns.map V.int) ∧ SqL K H b (ms.map V.int) ∧ Q (.bl (!HT.lexLt ms ns)) H
theorem op_leL {X : Cx} (hu : X.A.units < cLine) : OpR X (compareOp .LtE) (rLeL X.K) := by
  rintro ps z τ G _ _ v u Q J rx ry ⟨a, b, ns, ms, rfl, rfl, ha, hb, q⟩
  cases rx
  cases ry
  have ⟨its, r1, p1, _⟩ := J.list ha
  have ⟨its2, r2, p2, _⟩ := J.list hb
  have i1 : IntsAre its ns := Vals.ints r1
  have i2 : IntsAre its2 ms := Vals.ints r2
  have e1 : its.toArray.size = ns.length := by rw [List.size_toArray]; exact i1.length
  have e2 : its2.toArray.size = ms.length := by rw [List.size_toArray]; exact i2.length
  have w1 : ∀ j (h : j < its.toArray.size), ∃ t, its.toArray[j] = .int (ns.getD j 0) t := fun j h => PyProof.Rows.IntsAre.int_at i1 _ _ (by simp at h; simp [h])
  have w2 : ∀ j (h : j < its2.toArray.size), ∃ t, its2.toArray[j] = .int (ms.getD j 0) t := fun j h => PyProof.Rows.IntsAre.int_at i2 _ _ (by simp at h; simp [h])
  have ans := SeqAt.RcOp.lists_le (A := X.A) (s := z) (e := fun j => decide (ns.getD j 0 = ms.getD j 0)) (r := fun j => decide (ns.getD j 0 ≤ ms.getD j 0)) p1.isList p2.isList hu
    (fun j g1 g2 => by
      obtain ⟨t, q1⟩ := w1 j g1
      obtain ⟨t2, q2⟩ := w2 j g2
      rw [q1, q2, show decide (ns.getD j 0 = ms.getD j 0) = (ns.getD j 0 == ms.getD j 0) from (Bool.eq_iff_iff.mpr (by rw [decide_eq_true_iff, beq_iff_eq]))]
      exact SeqAt.EqAt.int_int _ _ _ _)
    (fun j g1 g2 _ => by
      obtain ⟨t, q1⟩ := w1 j g1
      obtain ⟨t2, q2⟩ := w2 j g2
      rw [q1, q2]
      exact fun _ _ _ _ h => PyProof.Rows.le_int h)
  rw [e1, e2, first_le] at ans
  exact ans _ _ _ _ ⟨.bl (!HT.lexLt ms ns), G, J, rfl, q⟩
end TG
/-! sorted of a list of tuples of numbers, of any lengths, the first tuple empty -/
namespace TuS
open PySem PyProof.Rows PySem.W
/-- a plain tuple of these numbers -/
def IsTI (h : Heap) (v : Value) (ns : List Int) : Prop := ∃ a its, v = .ref a ∧ IsTup h a its ∧ IntsAre its.toList ns
theorem IsTI.keeps {h h' : Heap} {v : Value} {ns : List Int} (x : IsTI h v ns) (k : ∀ b o, v = .ref b → h.get? b = some o → h'.get? b = some o) : IsTI h' v ns := by
  obtain ⟨a, its, rfl, ⟨o, e, c, n, d⟩, i⟩ := x
  exact ⟨a, its, rfl, ⟨o, k a o rfl e, c, n, d⟩, i⟩
section
variable {prog : Program} {w : World} {A : Around} {E : Value → Shared → Prop} {s : Shared}
theorem IsTI.looks {M : Model} {v : Value} {ns : List Int} (x : IsTI s.heap v ns) : Looks M s.heap (typeOf v) (.type "tuple") := by
  obtain ⟨a, its, rfl, ⟨o, e, c, n, d⟩, i⟩ := x
  have z : Looks M s.heap (typeOf (.ref a)) o.cls := (Looks.ld e).andThen .now
  rw [c] at z
  exact z
theorem call_tup_lt {l b : Addr} {items items2 : Array Value} {ns ms : List Int} {Q : Value → Shared → Prop} (hl : IsTup s.heap l items) (hb : IsTup s.heap b items2) (hi : IntsAre items.toList ns) (hj : IntsAre items2.toList ms)
    (h : Q (.bool (HT.lexLt ns ms)) s) : wpAny (model prog w) A (call (.builtin "tuple.__lt__") [.ref l, .ref b]) Q E s := by
  obtain ⟨⟨cls, dd, data, sl⟩, ho, hc, n, hd⟩ := id hl
  obtain ⟨⟨cls2, dd2, data2, sl2⟩, ho2, hc2, n2, hd2⟩ := id hb
  simp only at hc hd hc2 hd2
  subst hc hd hc2 hd2
  exact call_meets PySem.F.slot_tuple_lt ⟨_, ho, rfl⟩ PySem.F.entry_tuple_lt (PySem.F.args_tuple_lt_2 _ _) (HT.tuple_lt_ints l b items items2 n n2 dd dd2 sl sl2 ns ms hi hj) ⟨ho, ho2, h⟩
theorem ti_lt {v u : Value} {ns ms : List Int} {Q : Bool → Shared → Prop} (hu : A.units < cLine) (hv : IsTI s.heap v ns) (hw : IsTI s.heap u ms) (h : Q (HT.lexLt ns ms) s) : wpAny (model prog w) A (keyLt' oneType' v u) Q E s := by
  obtain ⟨a, its, rfl, ta, ia⟩ := hv
  obtain ⟨b, its2, rfl, tb, ib⟩ := hw
  obtain ⟨o, e, c, _⟩ := id ta
  rw [keyLt'_oneType, oneLt'_eq]
  simp only [if_true]
  refine wpAny_bind (wpAny_cRoomFor hu ?_)
  refine wpAny_bind (wpAny_callSpecialIfBound?_slot (T := "tuple") ⟨_, e, c⟩ PySem.F.slot_tuple_lt (call_tup_lt ta tb ia ib ?_))
  exact wpAny_truthy_bool h
theorem firsts_ti {k : Value → List Int} : ∀ (vs : List Value) {Q : List (Option Value) → Shared → Prop}, (∀ v ∈ vs, IsTI s.heap v (k v)) → (∀ fs : List (Option Value), (∀ v r, vs = v :: r → k v = [] → ∃ fr, fs = none :: fr) → Q fs s) → wpAny (model prog w) A (vs.mapM firstOfTuple') Q E s
  | [], Q, _, h => by rw [List.mapM_nil]; exact wpAny_pure (h [] fun v r e => by cases e)
  | v :: vs, Q, hv, h => by
    have h1 := hv v List.mem_cons_self
    have lk := h1.looks (M := model prog w)
    obtain ⟨a, its, rfl, ⟨o, e, c, n, d⟩, i⟩ := h1
    rw [List.mapM_cons]
    refine wpAny_bind ?_
    rw [kas_first_eq]
    refine wpAny_bind (lk.here ?_)
    rw [if_neg (by decide)]
    refine wpAny_bind (listItems_at e d (wpAny_pure ?_))
    refine wpAny_bind (firsts_ti vs (Q := fun bs s' => wpAny (model prog w) A (pure (its[0]? :: bs)) Q E s') (fun u hu => hv u (List.mem_cons_of_mem _ hu)) fun fs _ => wpAny_pure (h _ fun v' r e2 hk => ?_))
    cases e2
    rw [hk] at i
    have : its.toList = [] := by cases hh : its.toList with | nil => rfl | cons x y => rw [hh] at i; cases i
    have z : its[0]? = none := by rw [← Array.getElem?_toList, this]; rfl
    exact ⟨fs, by rw [z]⟩
theorem kind_ti {k : Value → List Int} {vs : List Value} {Q : SortKind → Shared → Prop} (h2 : 2 ≤ vs.length) (hv : ∀ v ∈ vs, IsTI s.heap v (k v)) (h0 : ∀ v r, vs = v :: r → k v = []) (h : Q oneType' s) : wpAny (model prog w) A (keyKind' vs.toArray) Q E s := by
  obtain ⟨v₁, v₂, rest, rfl⟩ : ∃ v₁ v₂ rest, vs = v₁ :: v₂ :: rest := by
    match vs, h2 with
    | [], h2 => simp at h2
    | [_], h2 => simp at h2
    | v₁ :: v₂ :: rest, _ => exact ⟨v₁, v₂, rest, rfl⟩
  rw [keyKind'_eq, List.mapM_toArray, map_eq_pure_bind]
  refine wpAny_bind (wpAny_bind (firsts_ti (k := k) _ hv fun fs hf => wpAny_pure ?_))
  obtain ⟨fr, rfl⟩ := hf _ _ rfl (h0 _ _ rfl)
  rw [if_neg (by simp), if_neg (by simp)]
  rw [oneTypeOnly'_eq, List.mapM_toArray, map_eq_pure_bind]
  refine wpAny_bind (wpAny_bind (wpAny_bind (kas_mapM (r := Value.type "tuple") _ (fun v hm Q' hq => (hv v hm).looks.here hq) (wpAny_pure ?_))))
  have hall : ((List.map (fun _ => Value.type "tuple") (v₁ :: v₂ :: rest)).toArray.all fun x => x == Value.type "tuple") = true := by
    simp only [List.all_toArray, List.all_map, List.all_eq_true]
    intro _ _
    rfl
  have h0' : (List.map (fun _ => Value.type "tuple") (v₁ :: v₂ :: rest)).toArray[0]? = some (Value.type "tuple") := by simp
  rw [h0']
  simp only [hall, if_true]
  exact wpAny_pure (wpAny_pure h)
theorem ti_sortable {a : Addr} {vs : List Value} {k : Value → List Int} (h2 : 2 ≤ vs.length) (hu : A.units < cLine) (hv : ∀ v ∈ vs, IsTI s.heap v (k v)) (h0 : ∀ v r, vs = v :: r → k v = []) (ha : ∀ v ∈ vs, v ≠ .ref a) :
    SrtO.SortableO prog w A s a vs fun v u => HT.lexLt (k v) (k u) := by
  intro h' keep
  have hv' : ∀ v ∈ vs, IsTI h' v (k v) := fun v hm => (hv v hm).keeps fun b o e g => keep b o (fun z => ha v hm (by rw [e, z])) g
  refine ⟨oneType', fun Q E hq => kind_ti (s := { s with heap := h' }) h2 hv' h0 hq, fun p q hp hq => ?_⟩
  exact ti_lt (s := { s with heap := h' }) (Q := fun r s' => s' = { s with heap := h' } ∧ r = HT.lexLt (k p.1) (k q.1)) (E := fun _ _ => False) hu (hv' p.1 hp) (hv' q.1 hq) ⟨rfl, rfl⟩
end
end TuS
namespace TG
open PySem PySem.Spec L2 PyProof.Rows
/-- sorted(xs), xs a list of tuples of numbers (k says which), the first of them empty -/
def rSortTI (K : PySem.W.Frag) : List V → Hp → VK → Prop := fun vs H Q => ∃ (a : Addr) (ts : List Addr) (k : Addr → List Int), vs = [V.ref a] ∧ SqL K H a (ts.map V.ref) ∧ (∀ t ∈ ts, SqT K H t ((k t).map V.int)) ∧ (∀ t r, ts = t :: r → k t = []) ∧
  ∀ (ts' : List Addr) (p : Addr), ts'.Perm ts → ts'.Pairwise (fun p q => HT.lexLt (k q) (k p) = false) → H p = none → Q (.ref p) (upd H p (.lst (ts'.map V.ref)))
section
variable {X : Cx}
theorem cr_sortTI (hu : X.A.units + 64 < cLine) : CallR X (.builtin "sorted") (rSortTI X.K) := by
  intro pins s σ H vs us Q I r h
  obtain ⟨a, ts, k, rfl, hs, hT, h0, q⟩ := h
  obtain ⟨its, rv, hl, hz⟩ := I.list hs
  rw [Vals.ref1 r]
  have ei := nts_of rv
  have hv : ∀ u ∈ its, TuS.IsTI s.heap u (k (adO u)) := fun u hm => by
    rw [ei] at hm
    obtain ⟨t, ht, rfl⟩ := List.mem_map.mp hm
    obtain ⟨xs, rx, hx, _⟩ := I.tuple (hT t ht)
    exact ⟨t, xs.toArray, rfl, hx, by show IntsAre xs.toArray.toList (k t); simpa using rx.ints⟩
  have h0' : ∀ v r, its = v :: r → k (adO v) = [] := fun v r e => by
    rw [e] at ei
    cases ts with
    | nil => cases ei
    | cons t ts =>
      rw [List.map_cons] at ei
      injection ei with e1 e2
      rw [e1]
      exact h0 t ts rfl
  refine SrtO.sorted_ord (NtL.swo_lexL fun u => k (adO u)) hl.isList (by rw [← rv.length]; exact hz) (fun h2 h₁ a' ha' kp => ?_) fun out h1 h2 => ?_
  · refine TuS.ti_sortable (s := { s with heap := h₁ }) h2 (by show X.A.units + 1 + 1 < cLine; omega) (fun v hm => (hv v hm).keeps fun b o _ e => (kp b o e).2) h0' fun v hm z => ?_
    obtain ⟨b, its2, e, ⟨o, e2, _⟩, _⟩ := hv v hm
    rw [e] at z
    injection z with z
    exact (kp b o e2).1 z
  have eo : out = (out.map adO).map Value.ref := ref_map fun u hm => by
    have hm' : u ∈ its := h2.perm.mem_iff.mp hm
    rw [ei] at hm'
    obtain ⟨t, _, e⟩ := List.mem_map.mp hm'
    exact ⟨t, e.symm⟩
  have hp : (out.map adO).Perm ts := by
    have p1 := h2.perm.map adO
    rw [ei, ad_map] at p1
    exact p1
  have hso : (out.map adO).Pairwise (fun p q => HT.lexLt (k q) (k p) = false) := List.pairwise_map.mpr (h1.imp fun {x y} z => z)
  obtain ⟨ep, he'⟩ := PyProof.Rows.sortedAll_at s.heap its out.toArray
  have hlen : ((out.map adO).map V.ref).length ≤ sizeLine := by
    rw [List.length_map, hp.length_eq]
    rw [List.length_map] at hz
    exact hz
  have rvo : Vals ((out.map adO).map V.ref) out := by
    have z := of_nts (out.map adO)
    rw [← eo] at z
    exact z
  exact ⟨.ref _, upd H (s.heap.objs.size + 1) (.lst ((out.map adO).map V.ref)), I.laid (t' := s.toks) (fun _ _ => PyProof.Rows.sortedAll_old) (Nat.le_succ _) ⟨hlen, out, ep, rvo, he'⟩, rfl, q _ _ hp hso (I.hok.fresh (Nat.le_succ _))⟩
end
end TG
/-! own rule: sorted of a list with at most one item, whatever this is -/
namespace TG
open PySem PySem.Spec L2
open PyProof.Rows hiding St
section
variable {prog : Program} {w : World} {A : Around} {E : Value → Shared → Prop} {s : Shared}
theorem perm_small {α : Type} {xs ys : List α} (h : xs.Perm ys) (l : ys.length ≤ 1) : xs = ys := by
  match ys, l, h with
  | [], _, h => exact List.perm_nil.mp h
  | [y], _, h => exact List.perm_singleton.mp h
theorem call_sortedSmall {l : Addr} {vs : List Value} {Q : Value → Shared → Prop} (hl : s.heap.IsList l vs.toArray) (few : vs.length ≤ 1) (q : Q (.ref (s.heap.objs.size + 1)) { s with heap := sortedAll s.heap vs vs.toArray }) :
    wpAny (model prog w) A (call (.builtin "sorted") [.ref l]) Q E s := by
  have big : vs.length ≤ sizeLine := by rw [sizeLine_eq]; omega
  have h0 : ((s.heap.push (seqObj "list" #[] 0)).update s.heap.objs.size (Obj.mapSeq (· ++ vs.toArray))).objs.size = s.heap.objs.size + 1 := (Heap.size_update ..).trans (size_push' ..)
  have at2 : (((s.heap.push (seqObj "list" #[] 0)).update s.heap.objs.size (Obj.mapSeq (· ++ vs.toArray))).push (seqObj "list" vs.toArray 0)).get? (s.heap.objs.size + 1) = some (seqObj "list" vs.toArray 0) := h0 ▸ Heap.get?_push_size _ rfl
  refine Calls.call_function_entry kind_sorted plain_sorted entry_sorted (args_sorted1 (.ref l)) ?_
  unfold Builtin.«sorted»
  refine wpAny_bind (m := checkCount "sorted" 1 1 _) (wpAny_pure (wpAny_bind (collect_list hl (wpAny_bind (wpAny_newList ?_ big)) big)))
  show wpAny _ _ _ _ _ { s with heap := ((s.heap.push (seqObj "list" #[] 0)).update s.heap.objs.size (Obj.mapSeq (· ++ vs.toArray))).push (seqObj "list" vs.toArray 0) }
  rw [h0]
  refine wpAny_bind (wpAny_holding (wpAny_call_entry slot_list_sort ⟨_, at2, rfl⟩ entry_list_sort (SK.plain_sort (r := fun _ => 0) at2 (by omega) (fun h2 => absurd few (by omega)) fun ps out e1 pm _ => ⟨_, rfl, ?_⟩) (args_list_sort _)))
  have e2 : out = vs.toArray := by
    have z : ps = vs.zip vs := perm_small pm (by rw [List.length_zip]; omega)
    rw [z, List.map_snd_zip (Nat.le_refl _)] at e1
    rw [← e1]
  subst e2
  exact wpAny_pure ⟨_, rfl, q⟩
end
section
variable {X : Cx}
/-- sorted(xs), xs of one item at most -/
def rSortS (K : PySem.W.Frag) : List V → Hp → VK → Prop := fun vs H Q => ∃ (a : Addr) (xs : List V), vs = [V.ref a] ∧ SqL K H a xs ∧ xs.length ≤ 1 ∧ ∀ p, H p = none → Q (.ref p) (upd H p (.lst xs))
theorem cr_sortSmall : CallR X (.builtin "sorted") (rSortS X.K) := by
  intro pins s σ H vs us Q I r h
  obtain ⟨a, xs, rfl, hs, few, q⟩ := h
  obtain ⟨its, rv, hl, hz⟩ := I.list hs
  cases Vals.ref1 r
  refine call_sortedSmall hl.isList (by rw [← rv.length]; exact few) ?_
  obtain ⟨ep, at3⟩ := PyProof.Rows.sortedAll_at s.heap its its.toArray
  refine ⟨.ref _, upd H (s.heap.objs.size + 1) (.lst xs), I.laid (t' := s.toks) (fun _ _ => PyProof.Rows.sortedAll_old) (Nat.le_succ _) ⟨hz, its, ep, rv, by simpa using at3⟩, rfl, q _ (I.hok.fresh (Nat.le_succ _))⟩
end
end TG
set_option maxHeartbeats 400000
/-! own rule: sorted(d), d a dict whose keys are tuples of so many integers, each from 0 below B -/
namespace TG
open PySem PySem.Spec L2
open PyProof.Rows hiding St
/-- what comes: the keys, ascending by their code -/
def rSortTD (K : PySem.W.Frag) (d : Nat) (B : Int) : List V → Hp → VK → Prop := fun vs H Q => ∃ (a : Addr) (kvs : List (List Key × V)), vs = [V.ref a] ∧ Rd H a (.dT kvs) ∧ kvs.length < 64 ∧
  (∀ q ∈ kvs, ∃ ns : List Int, q.1.map kV = ns.map V.int ∧ ns.length = d ∧ TS.Bd B ns) ∧
  ∀ (bs cs : List Addr) (p : Addr), IsKeys H kvs bs → cs.Perm bs → cs.Pairwise (fun b c => ∀ n m, H b = some (.tup (n.map V.int)) → H c = some (.tup (m.map V.int)) → TS.code B n ≤ TS.code B m) → H p = none → Q (.ref p) (upd H p (.lst (cs.map V.ref)))
/-- the same where at most one key stands -/
def rSortTD1 (K : PySem.W.Frag) : List V → Hp → VK → Prop := fun vs H Q => ∃ (a : Addr) (kvs : List (List Key × V)), vs = [V.ref a] ∧ Rd H a (.dT kvs) ∧ kvs.length ≤ 1 ∧
  ∀ (bs : List Addr) (p : Addr), IsKeys H kvs bs → H p = none → Q (.ref p) (upd H p (.lst (bs.map V.ref)))
section
variable {X : Cx}
theorem cr_sortTD {d : Nat} {B : Int} (hc : X.calm = true) (hd : 1 ≤ d) : CallR X (.builtin "sorted") (rSortTD X.K d B) := by
  rintro ps z τ G vs us Q J r ⟨a, kvs, rfl, ha, few, hk, q⟩
  obtain ⟨u, rfl, rx⟩ := r.one
  cases rx
  obtain ⟨ns0, hs, xs, pr, o, es, ep, ho, hx, hdt, he, hn⟩ := (show ObjOk X.prog X.w G z.heap a (.dT kvs) from ha.ok J.hok)
  have l1 : es.size = xs.length := size_of_entries he
  have l2 : kvs.length = xs.length := Paired.length pr
  have keys := isKeys_of pr
  refine Calls.call_function_entry PyProof.Rows.kind_sorted PyProof.Rows.plain_sorted PyProof.Rows.entry_sorted (PyProof.Rows.args_sorted1 _) ?_
  unfold Builtin.«sorted»
  refine wpAny_bind (m := checkCount "sorted" 1 1 _) (wpAny_pure ?_)
  refine wpAny_bind (PySem.W.kdu_collect (A := X.A.in1) (kdl_raw hs hx hdt) (J.ok.hd hc) ho (by rw [sizeLine_eq]; omega) fun h' tk acc kp it => ?_)
  have accE : acc.toList = (xs.map fun x => x.2.1).map Value.ref := by
    rw [List.map_map]
    refine List.ext_getElem? fun j => ?_
    rw [List.getElem?_map, Array.getElem?_toList]
    cases hj : acc[j]? with
    | none =>
      have far : acc.size ≤ j := Array.getElem?_eq_none_iff.mp hj
      have sz := it.1
      rw [List.getElem?_eq_none (by omega)]
      rfl
    | some v =>
      obtain ⟨en, hen, rfl⟩ := it.2 j v hj
      have qe := entry_at he j
      rw [hen] at qe
      cases hb : xs[j]? with
      | none => rw [hb] at qe; cases qe
      | some x => rw [hb] at qe; cases qe; rfl
  generalize hbs : (xs.map fun x => x.2.1) = bs at accE keys
  have lbs : bs.length = kvs.length := by rw [← hbs, List.length_map, l2]
  have J1 : Inv X ps τ G { z with heap := h', toks := tk } := J.kept kp
  have raw : ∀ {b : Addr} {n : List Int}, G b = some (.tup (n.map V.int)) → TS.TupInts z.heap (.ref b) n := fun {b n} hb => by
    obtain ⟨its, rv, hT, _⟩ := J.tuple (SqT.of hb)
    exact ⟨b, its.toArray, rfl, hT, by simpa using rv.ints⟩
  have ok : TS.TupsOk z.heap d B acc.toList := fun v hv => by
    rw [accE] at hv
    obtain ⟨b, hb, rfl⟩ := List.mem_map.mp hv
    obtain ⟨j, hj⟩ := List.getElem?_of_mem hb
    obtain ⟨kv, hkv, e⟩ := paired_of keys hj
    obtain ⟨ns, en, h1, h2⟩ := hk kv (List.mem_of_getElem? hkv)
    have e : G b = some (.tup (kv.1.map kV)) := e
    rw [en] at e
    exact ⟨ns, raw e, h1, h2⟩
  have la : acc.toList.length < 64 := by rw [accE, List.length_map]; omega
  refine wpAny_bind (wpAny_newList ?_ (by rw [sizeLine_eq]; omega))
  have at1 : (h'.push (seqObj "list" acc.toList.toArray 0)).get? h'.objs.size = some (seqObj "list" acc.toList.toArray 0) := Heap.get?_push_size _ rfl
  show wpAny _ _ _ _ _ { z with heap := h'.push (seqObj "list" acc.toList.toArray 0), toks := tk }
  have keep : ∀ b o, z.heap.get? b = some o → o.cls = .type "tuple" → (h'.push (seqObj "list" acc.toList.toArray 0)).get? b = some o := fun b o e _ => Heap.get?_push_of_some _ (kp b o e)
  refine wpAny_bind (wpAny_holding (wpAny_call_entry PyProof.Rows.slot_list_sort ⟨_, at1, rfl⟩ PyProof.Rows.entry_list_sort
    (TS.sort_tups (s := { z with heap := h'.push (seqObj "list" acc.toList.toArray 0), toks := tk }) at1 la hd (ok.keeps keep) (fun v => TS.code B (TS.intsOf z.heap v)) (fun v hv n t => ?_) fun out o1 o2 => ⟨_, rfl, ?_⟩) (PyProof.Rows.args_list_sort _)))
  · obtain ⟨n0, t0, _⟩ := ok v hv
    have e : n = n0 := t.ints.symm.trans (t0.keeps keep).ints
    show TS.code B (TS.intsOf z.heap v) = TS.code B n
    rw [t0.ints, e]
  · have shape : ∀ u ∈ out.toList, ∃ t, u = Value.ref t := fun u hu => by
      have hu := o1.mem_iff.mp hu
      rw [accE] at hu
      obtain ⟨b, _, rfl⟩ := List.mem_map.mp hu
      exact ⟨b, rfl⟩
    have eo : out.toList = (out.toList.map adO).map Value.ref := ref_map shape
    have perm : (out.toList.map adO).Perm bs := by
      have z := o1.map adO
      rw [accE, ad_map] at z
      exact z
    have asc : (out.toList.map adO).Pairwise (fun b c => ∀ n m, G b = some (.tup (n.map V.int)) → G c = some (.tup (m.map V.int)) → TS.code B n ≤ TS.code B m) := by
      rw [List.pairwise_map]
      refine List.Pairwise.imp_of_mem (fun {u v} hu hv h n m hn hm => ?_) o2
      obtain ⟨b, rfl⟩ := shape u hu
      obtain ⟨c, rfl⟩ := shape v hv
      have h : TS.code B (TS.intsOf z.heap (.ref b)) ≤ TS.code B (TS.intsOf z.heap (.ref c)) := h
      have hn : G b = some (.tup (n.map V.int)) := hn
      have hm : G c = some (.tup (m.map V.int)) := hm
      rw [(raw hn).ints, (raw hm).ints] at h
      exact h
    have lo : ((out.toList.map adO).map V.ref).length ≤ sizeLine := by
      rw [List.length_map, perm.length_eq, sizeLine_eq]
      omega
    obtain ⟨e', he'⟩ := PyProof.Rows.sortedHeap_at (vs := acc.toList) (out := out) at1
    have rvo : Vals ((out.toList.map adO).map V.ref) out.toList := by
      have z := of_nts (out.toList.map adO)
      rw [← eo] at z
      exact z
    refine wpAny_pure ⟨_, rfl, .ref h'.objs.size, upd G h'.objs.size (.lst ((out.toList.map adO).map V.ref)), J1.laid (t' := tk) (fun b u e => ?_) (Nat.le_refl _) (show ObjOk X.prog X.w _ _ _ (.lst ((out.toList.map adO).map V.ref)) from ⟨lo, out.toList, e', rvo, by rw [Array.toArray_toList]; exact he'⟩), rfl, q bs _ _ keys perm asc (J1.hok.fresh (Nat.le_refl _))⟩
    have lt : b < h'.objs.size := Heap.lt_size e
    rw [PyProof.Rows.sortedHeap_old (Nat.ne_of_lt lt) (by rw [size_push']; exact Nat.lt_succ_of_lt lt)]
    exact Heap.get?_push_of_some _ e
/-- .. a dict of one key at most -/
theorem cr_sortTD1 (hc : X.calm = true) : CallR X (.builtin "sorted") (rSortTD1 X.K) := by
  rintro ps z τ G vs us Q J r ⟨a, kvs, rfl, ha, few, q⟩
  obtain ⟨u, rfl, rx⟩ := r.one
  cases rx
  obtain ⟨ns0, hs, xs, pr, o, es, ep, ho, hx, hdt, he, hn⟩ := (show ObjOk X.prog X.w G z.heap a (.dT kvs) from ha.ok J.hok)
  have l1 : es.size = xs.length := size_of_entries he
  have l2 : kvs.length = xs.length := Paired.length pr
  have keys := isKeys_of pr
  refine Calls.call_function_entry PyProof.Rows.kind_sorted PyProof.Rows.plain_sorted PyProof.Rows.entry_sorted (PyProof.Rows.args_sorted1 _) ?_
  unfold Builtin.«sorted»
  refine wpAny_bind (m := checkCount "sorted" 1 1 _) (wpAny_pure ?_)
  refine wpAny_bind (PySem.W.kdu_collect (A := X.A.in1) (kdl_raw hs hx hdt) (J.ok.hd hc) ho (by rw [sizeLine_eq]; omega) fun h' tk acc kp it => ?_)
  have accE : acc.toList = (xs.map fun x => x.2.1).map Value.ref := by
    rw [List.map_map]
    refine List.ext_getElem? fun j => ?_
    rw [List.getElem?_map, Array.getElem?_toList]
    cases hj : acc[j]? with
    | none =>
      have far : acc.size ≤ j := Array.getElem?_eq_none_iff.mp hj
      have sz := it.1
      rw [List.getElem?_eq_none (by omega)]
      rfl
    | some v =>
      obtain ⟨en, hen, rfl⟩ := it.2 j v hj
      have qe := entry_at he j
      rw [hen] at qe
      cases hb : xs[j]? with
      | none => rw [hb] at qe; cases qe
      | some x => rw [hb] at qe; cases qe; rfl
  generalize hbs : (xs.map fun x => x.2.1) = bs at accE keys
  have lbs : bs.length = kvs.length := by rw [← hbs, List.length_map, l2]
  have J1 : Inv X ps τ G { z with heap := h', toks := tk } := J.kept kp
  have la : acc.toList.length ≤ 1 := by rw [accE, List.length_map]; omega
  refine wpAny_bind (wpAny_newList ?_ (by rw [sizeLine_eq]; omega))
  have at1 : (h'.push (seqObj "list" acc.toList.toArray 0)).get? h'.objs.size = some (seqObj "list" acc.toList.toArray 0) := Heap.get?_push_size _ rfl
  show wpAny _ _ _ _ _ { z with heap := h'.push (seqObj "list" acc.toList.toArray 0), toks := tk }
  refine wpAny_bind (wpAny_holding (wpAny_call_entry PyProof.Rows.slot_list_sort ⟨_, at1, rfl⟩ PyProof.Rows.entry_list_sort
    (SrtO.list_sort_ord (s := { z with heap := h'.push (seqObj "list" acc.toList.toArray 0), toks := tk }) (NtL.swo_lexL fun _ => []) at1 (by rw [sizeLine_eq]; omega) (fun h2 => absurd h2 (by omega)) fun out o1 o2 => ⟨_, rfl, ?_⟩) (PyProof.Rows.args_list_sort _)))
  · have perm0 : out.Perm acc.toList := o2.perm
    have eo : out = acc.toList := perm_small perm0 la
    subst eo
    have lo : (bs.map V.ref).length ≤ sizeLine := by
      rw [List.length_map, sizeLine_eq]
      omega
    obtain ⟨e', he'⟩ := PyProof.Rows.sortedHeap_at (vs := acc.toList) (out := acc.toList.toArray) at1
    have rvo : Vals (bs.map V.ref) acc.toList := by
      rw [accE]
      exact of_nts bs
    refine wpAny_pure ⟨_, rfl, .ref h'.objs.size, upd G h'.objs.size (.lst (bs.map V.ref)), J1.laid (t' := tk) (fun b u e => ?_) (Nat.le_refl _) (show ObjOk X.prog X.w _ _ _ (.lst (bs.map V.ref)) from ⟨lo, acc.toList, e', rvo, he'⟩), rfl, q bs _ keys (J1.hok.fresh (Nat.le_refl _))⟩
    have lt : b < h'.objs.size := Heap.lt_size e
    rw [PyProof.Rows.sortedHeap_old (Nat.ne_of_lt lt) (by rw [size_push']; exact Nat.lt_succ_of_lt lt)]
    exact Heap.get?_push_of_some _ e
/-- either way -/
def rSortTX (K : PySem.W.Frag) (B : Int) : List V → Hp → VK → Prop := fun vs H Q => ∃ (a : Addr) (kvs : List (List Key × V)), vs = [V.ref a] ∧ Rd H a (.dT kvs) ∧
  ((∃ d, 1 ≤ d ∧ kvs.length < 64 ∧ ∀ q ∈ kvs, ∃ ns : List Int, q.1.map kV = ns.map V.int ∧ ns.length = d ∧ TS.Bd B ns) ∨ kvs.length ≤ 1) ∧
  ∀ (bs cs : List Addr) (p : Addr), IsKeys H kvs bs → cs.Perm bs → cs.Pairwise (fun b c => ∀ n m, H b = some (.tup (n.map V.int)) → H c = some (.tup (m.map V.int)) → TS.code B n ≤ TS.code B m) → H p = none → Q (.ref p) (upd H p (.lst (cs.map V.ref)))
theorem cr_sortTX {B : Int} (hc : X.calm = true) : CallR X (.builtin "sorted") (rSortTX X.K B) := by
  rintro ps z τ G vs us Q J r ⟨a, kvs, e, ha, ⟨d, hd, few, hk⟩ | few, q⟩
  · exact cr_sortTD hc hd ps z τ G vs us Q J r ⟨a, kvs, e, ha, few, hk, q⟩
  · refine cr_sortTD1 hc ps z τ G vs us Q J r ⟨a, kvs, e, ha, few, fun bs p hk hp => q bs bs p hk (.refl _) ?_ hp⟩
    have l : bs.length ≤ 1 := by
      have := paired_len hk
      omega
    match bs, l with
    | [], _ => exact .nil
    | [b], _ => exact List.pairwise_singleton _ _
end
end TG
set_option maxHeartbeats 400000
/-! rows of small numbers: by their codes they stand in the tuples' order; a dict of shares that grows -/
namespace TG
open PySem PySem.Spec L2
open PyProof.Rows hiding St
theorem lex_code {B : Int} : ∀ {ns ms : List Int}, ns.length = ms.length → TS.Bd B ns → TS.Bd B ms → TS.code B ns ≤ TS.code B ms → ns ≠ ms → HT.lexLt ns ms = true
  | [], [], _, _, _, _, h => absurd rfl h
  | [], _ :: _, h, _, _, _, _ => by cases h
  | _ :: _, [], h, _, _, _, _ => by cases h
  | x :: r, y :: q, hl, hr, hq, hc, hn => by
    have hl' : r.length = q.length := by simpa using hl
    rw [HT.lexLt_cons]
    by_cases e : x = y
    · subst e
      rw [if_pos rfl]
      refine lex_code hl' hr.tail hq.tail ?_ (fun z => hn (by rw [z]))
      have h : x * B ^ r.length + TS.code B r ≤ x * B ^ q.length + TS.code B q := hc
      rw [hl'] at h
      omega
    · rw [if_neg e]
      refine decide_eq_true ?_
      rcases Int.lt_trichotomy x y with h | h | h
      · exact h
      · exact absurd h e
      · have := TS.code_lt hl'.symm hq.tail hr.tail h
        omega
theorem asc_pairwise : ∀ {L : List (List Int)}, L.Pairwise (fun a b => HT.lexLt a b = true) → ascB L = true
  | [], _ => rfl
  | [_], _ => rfl
  | a :: b :: r, h => by
    obtain ⟨h1, h2⟩ := List.pairwise_cons.mp h
    show (HT.lexLt a b && ascB (b :: r)) = true
    rw [h1 b List.mem_cons_self, asc_pairwise h2]
    rfl
section
variable {κ : Type} [DecidableEq κ]
theorem mem_putK {kvs : List (κ × V)} {k : κ} {v : V} {q : κ × V} (h : q ∈ putK kvs k v) : q ∈ kvs ∨ q = (k, v) := by
  unfold putK at h
  split at h
  · obtain ⟨x, hx, rfl⟩ := List.mem_map.mp h
    by_cases e : x.1 = k
    · rw [if_pos e, e]
      exact .inr rfl
    · rw [if_neg e]
      exact .inl hx
  · rcases List.mem_append.mp h with h | h
    · exact .inl h
    · exact .inr (List.mem_singleton.mp h)
theorem nodup_putK {kvs : List (κ × V)} {k : κ} {v : V} (h : (kvs.map (·.1)).Nodup) : ((putK kvs k v).map (·.1)).Nodup := by
  unfold putK
  split
  · rw [List.map_map]
    have e : (Prod.fst ∘ fun kv : κ × V => if kv.1 = k then (kv.1, v) else kv) = Prod.fst := by
      funext x
      show (if x.1 = k then (x.1, v) else x).1 = x.1
      split <;> rfl
    rw [e]
    exact h
  · rename_i hn
    rw [List.map_append, List.nodup_append]
    refine ⟨h, List.nodup_cons.mpr ⟨List.not_mem_nil, .nil⟩, ?_⟩
    rintro a ha b hb rfl
    rw [List.map_cons, List.map_nil, List.mem_singleton] at hb
    obtain ⟨x, hx, rfl⟩ := List.mem_map.mp ha
    exact hn (List.any_eq_true.mpr ⟨x, hx, decide_eq_true hb⟩)
theorem mem_of_valV {kvs : List (κ × V)} {k : κ} {v : V} (h : L2.valV kvs k = some v) : (k, v) ∈ kvs := by
  unfold L2.valV at h
  obtain ⟨x, hx, rfl⟩ := Option.map_eq_some_iff.mp h
  have h1 := List.mem_of_find?_eq_some hx
  have h2 : x.1 = k := of_decide_eq_true (List.find?_some (p := fun kv : κ × V => decide (kv.1 = k)) hx)
  rw [← h2]
  exact h1
end
end TG
set_option maxHeartbeats 400000
/-! polynomials told as terms, worth at numbers -/
namespace TG
open PySem PySem.Spec L2
open PyProof.Rows hiding St
/-- a term: a tuple of a tuple of powers and a share -/
def TermH (H : Hp) (e : V) (t : List Int × Int) : Prop := ∃ b u, e = .ref b ∧ H b = some (.tup [.ref u, .int t.2]) ∧ H u = some (.tup (t.1.map V.int))
theorem TermH.same {H H' : Hp} {e : V} {t : List Int × Int} (h : TermH H e t) (s : Same H H') : TermH H' e t := by
  obtain ⟨b, u, h1, h2, h3⟩ := h
  exact ⟨b, u, h1, s _ _ h2, s _ _ h3⟩
theorem TermH.updL {H : Hp} {D : Addr} {xs ys : List V} {e : V} {t : List Int × Int} (h : TermH H e t) (hD : H D = some (.lst xs)) : TermH (L2.upd H D (.lst ys)) e t := by
  obtain ⟨b, u, h1, h2, h3⟩ := h
  refine ⟨b, u, h1, (upd_ne ?_).trans h2, (upd_ne ?_).trans h3⟩
  · rintro rfl
    rw [h2] at hD
    cases hD
  · rintro rfl
    rw [h3] at hD
    cases hD
theorem TermH.updD {H : Hp} {D : Addr} {kvs : List (Key × V)} {o : HO} {e : V} {t : List Int × Int} (h : TermH H e t) (hD : H D = some (.dK kvs)) : TermH (L2.upd H D o) e t := by
  obtain ⟨b, u, h1, h2, h3⟩ := h
  refine ⟨b, u, h1, (upd_ne ?_).trans h2, (upd_ne ?_).trans h3⟩
  · rintro rfl
    rw [h2] at hD
    cases hD
  · rintro rfl
    rw [h3] at hD
    cases hD
/-- a polynomial: a list or tuple of terms -/
def TermsV (H : Hp) (v : V) (ts : List (List Int × Int)) : Prop := ∃ a es, v = .ref a ∧ (H a = some (.lst es) ∨ H a = some (.tup es)) ∧ Paired (TermH H) es ts
theorem TermsV.same {H H' : Hp} {v : V} {ts : List (List Int × Int)} (h : TermsV H v ts) (s : Same H H') : TermsV H' v ts := by
  obtain ⟨a, es, e, h1, h2⟩ := h
  exact ⟨a, es, e, h1.imp (s _ _) (s _ _), paired_imp (fun _ _ h => h.same s) h2⟩
/-- powers of numbers, multiplied; the worth of terms at numbers -/
def prodP : List Int → List Int → Int
  | x :: xs, p :: ps => x ^ p.toNat * prodP xs ps
  | _, _ => 1
def wvT (xs : List Int) (T : List (List Int × Int)) : Int := (T.map fun t => t.2 * prodP xs t.1).sum
/-- the terms with the first power p, without it -/
def grp (T : List (List Int × Int)) (p : Int) : List (List Int × Int) := (T.filter fun t => decide (t.1.headD 0 = p)).map fun t => (t.1.tail, t.2)
theorem grp_cons (t : List Int × Int) (T : List (List Int × Int)) (p : Int) : grp (t :: T) p = if t.1.headD 0 = p then (t.1.tail, t.2) :: grp T p else grp T p := by
  unfold grp
  by_cases h : t.1.headD 0 = p
  · rw [List.filter_cons, if_pos (decide_eq_true h), if_pos h]
    rfl
  · rw [List.filter_cons, if_neg (fun e => h (of_decide_eq_true e)), if_neg h]
theorem grp_snoc (t : List Int × Int) (T : List (List Int × Int)) (p : Int) : grp (T ++ [t]) p = if t.1.headD 0 = p then grp T p ++ [(t.1.tail, t.2)] else grp T p := by
  unfold grp
  rw [List.filter_append, List.map_append]
  by_cases h : t.1.headD 0 = p
  · rw [List.filter_cons, if_pos (decide_eq_true h), if_pos h]
    rfl
  · rw [List.filter_cons, if_neg (fun e => h (of_decide_eq_true e)), if_neg h, List.filter_nil, List.map_nil, List.append_nil]
theorem grp_len (T : List (List Int × Int)) (p : Int) : (grp T p).length ≤ T.length := by
  unfold grp
  rw [List.length_map]
  exact List.length_filter_le _ _
theorem mem_grp {T : List (List Int × Int)} {p : Int} {q : List Int × Int} (h : q ∈ grp T p) : ∃ t ∈ T, t.1.headD 0 = p ∧ q = (t.1.tail, t.2) := by
  obtain ⟨t, ht, rfl⟩ := List.mem_map.mp h
  obtain ⟨h1, h2⟩ := List.mem_filter.mp ht
  exact ⟨t, h1, of_decide_eq_true h2, rfl⟩
theorem sum_add {α : Type} (f g : α → Int) : ∀ l : List α, (l.map fun x => f x + g x).sum = (l.map f).sum + (l.map g).sum
  | [] => rfl
  | x :: l => by
    rw [List.map_cons, List.map_cons, List.map_cons, List.sum_cons, List.sum_cons, List.sum_cons, sum_add f g l]
    omega
theorem sum_zero {α : Type} {f : α → Int} : ∀ {l : List α}, (∀ x ∈ l, f x = 0) → (l.map f).sum = 0
  | [], _ => rfl
  | x :: l, h => by
    rw [List.map_cons, List.sum_cons, h x List.mem_cons_self, sum_zero fun y hy => h y (List.mem_cons_of_mem _ hy)]
    rfl
theorem sum_at {h c : Int} : ∀ {keys : List Int}, keys.Nodup → h ∈ keys → (keys.map fun p => if h = p then c else 0).sum = c
  | [], _, m => absurd m List.not_mem_nil
  | k :: r, nd, m => by
    obtain ⟨n1, n2⟩ := List.nodup_cons.mp nd
    rw [List.map_cons, List.sum_cons]
    by_cases e : h = k
    · subst e
      rw [if_pos rfl, sum_zero fun x hx => if_neg fun z => n1 (by rw [z]; exact hx)]
      omega
    · rw [if_neg e, sum_at n2 ((List.mem_cons.mp m).resolve_left e)]
      omega
theorem wv_group {x : Int} {xs keys : List Int} (nd : keys.Nodup) : ∀ {T : List (List Int × Int)}, (∀ t ∈ T, t.1.headD 0 ∈ keys ∧ t.1 ≠ []) → (keys.map fun p => x ^ p.toNat * wvT xs (grp T p)).sum = wvT (x :: xs) T
  | [], _ => sum_zero fun p _ => Int.mul_zero _
  | t :: T, h => by
    obtain ⟨h1, h2⟩ := h t List.mem_cons_self
    have ih := wv_group (x := x) (xs := xs) nd (T := T) fun y hy => h y (List.mem_cons_of_mem _ hy)
    have e1 : (keys.map fun p => x ^ p.toNat * wvT xs (grp (t :: T) p)) = keys.map fun p => x ^ p.toNat * wvT xs (grp T p) + if t.1.headD 0 = p then t.2 * prodP (x :: xs) t.1 else 0 := by
      refine List.map_congr_left fun p _ => ?_
      rw [grp_cons]
      by_cases e : t.1.headD 0 = p
      · rw [if_pos e, if_pos e]
        show x ^ p.toNat * (t.2 * prodP xs t.1.tail + wvT xs (grp T p)) = _
        cases et : t.1 with
        | nil => exact absurd et h2
        | cons q r =>
          rw [et] at e
          have e : q = p := e
          subst e
          show x ^ q.toNat * (t.2 * prodP xs r + wvT xs (grp T q)) = _ + t.2 * (x ^ q.toNat * prodP xs r)
          rw [Int.mul_add, Int.add_comm, Int.mul_left_comm]
      · rw [if_neg e, if_neg e, Int.add_zero]
    rw [e1, sum_add, ih, sum_at nd h1]
    show _ = t.2 * prodP (x :: xs) t.1 + wvT (x :: xs) T
    omega
/-- the greatest: a bound on what is reckoned -/
theorem sum_le {α : Type} {f : α → Int} {M : Int} (h0 : 0 ≤ M) : ∀ {l : List α}, (∀ x ∈ l, 0 ≤ f x ∧ f x ≤ M) → 0 ≤ (l.map f).sum ∧ (l.map f).sum ≤ (l.length : Int) * M
  | [], _ => ⟨Int.le_refl _, by rw [List.length_nil]; show (0 : Int) ≤ 0 * M; rw [Int.zero_mul]; exact Int.le_refl _⟩
  | x :: l, h => by
    obtain ⟨h1, h2⟩ := h x List.mem_cons_self
    obtain ⟨i1, i2⟩ := sum_le h0 fun y hy => h y (List.mem_cons_of_mem _ hy)
    rw [List.map_cons, List.sum_cons, List.length_cons, Int.natCast_succ, Int.add_mul]
    omega
theorem pow2_nn (k : Nat) : (0 : Int) < 2 ^ k := Int.pow_pos (by decide)
theorem pow2_le {a b : Nat} (h : a ≤ b) : (2 : Int) ^ a ≤ 2 ^ b := by
  obtain ⟨c, rfl⟩ := Nat.le.dest h
  rw [Int.pow_add]
  have h1 := pow2_nn a
  have h2 := pow2_nn c
  have : 2 ^ a * 1 ≤ (2 : Int) ^ a * 2 ^ c := Int.mul_le_mul_of_nonneg_left (by omega) (by omega)
  omega
/-- numbers with the greatest power asked of each: their powers are at most 2 ** c -/
def XmOk (c : Nat) (q : Int × Nat) : Prop := 0 ≤ q.1 ∧ ∀ i, i ≤ q.2 → q.1 ^ i ≤ 2 ^ c
/-- a term whose powers are at most these, its share at most 2 ** b -/
def TmOk (b : Nat) (xm : List (Int × Nat)) (t : List Int × Int) : Prop := Paired (fun p (q : Int × Nat) => 0 ≤ p ∧ p ≤ (q.2 : Int)) t.1 xm ∧ 0 ≤ t.2 ∧ t.2 ≤ 2 ^ b
theorem prodP_bd {c : Nat} : ∀ {ps : List Int} {xm : List (Int × Nat)}, Paired (fun p (q : Int × Nat) => 0 ≤ p ∧ p ≤ (q.2 : Int)) ps xm → (∀ q ∈ xm, XmOk c q) → 0 ≤ prodP (xm.map (·.1)) ps ∧ prodP (xm.map (·.1)) ps ≤ 2 ^ (c * xm.length)
  | _, _, .nil, _ => ⟨by decide, by rw [List.length_nil, Nat.mul_zero]; exact Int.le_refl _⟩
  | p :: ps, q :: xm, .cons ⟨h0, h1⟩ t, h => by
    obtain ⟨i0, i1⟩ := prodP_bd t fun y hy => h y (List.mem_cons_of_mem _ hy)
    obtain ⟨x0, x1⟩ := h q List.mem_cons_self
    have a0 : 0 ≤ q.1 ^ p.toNat := Int.pow_nonneg x0
    have a1 := x1 p.toNat (by omega)
    show 0 ≤ q.1 ^ p.toNat * prodP (xm.map (·.1)) ps ∧ q.1 ^ p.toNat * prodP (xm.map (·.1)) ps ≤ 2 ^ (c * (xm.length + 1))
    rw [Nat.mul_succ, Nat.add_comm, Int.pow_add]
    exact ⟨Int.mul_nonneg a0 i0, Int.mul_le_mul a1 i1 i0 (Int.le_of_lt (pow2_nn c))⟩
theorem wv_bd {b c : Nat} {xm : List (Int × Nat)} {T : List (List Int × Int)} (h : ∀ q ∈ xm, XmOk c q) (hT : ∀ t ∈ T, TmOk b xm t) : 0 ≤ wvT (xm.map (·.1)) T ∧ wvT (xm.map (·.1)) T ≤ (T.length : Int) * 2 ^ (b + c * xm.length) := by
  refine sum_le (Int.le_of_lt (pow2_nn _)) fun t ht => ?_
  obtain ⟨h1, h2, h3⟩ := hT t ht
  obtain ⟨i0, i1⟩ := prodP_bd h1 h
  rw [Int.pow_add]
  exact ⟨Int.mul_nonneg h2 i0, Int.mul_le_mul h3 i1 i0 (Int.le_of_lt (pow2_nn b))⟩
theorem abs_bd {i : Int} {a k : Nat} (h0 : 0 ≤ i) (h : i ≤ (a : Int) * 2 ^ k) (ha : a < 2 ^ 30) : i.natAbs < 2 ^ (30 + k) := by
  have h3 : ((2 ^ k : Nat) : Int) = (2 : Int) ^ k := by rw [Int.natCast_pow]; rfl
  rw [← h3] at h
  have h4 : i.natAbs ≤ a * 2 ^ k := by
    have : ((i.natAbs : Nat) : Int) ≤ ((a * 2 ^ k : Nat) : Int) := by rw [Int.natCast_mul]; omega
    exact Int.ofNat_le.mp this
  rw [Nat.pow_add]
  have h5 : 0 < 2 ^ k := Nat.pow_pos (by decide)
  have : a * 2 ^ k < 2 ^ 30 * 2 ^ k := Nat.mul_lt_mul_of_pos_right ha h5
  omega
end TG
set_option maxHeartbeats 400000
/-! max(xs, default=d), xs a list of integers; sorted(d, reverse=True) of integer keys -/
namespace TG
open PySem PySem.Spec L2
open PyProof.Rows hiding St
/-- the number of an integer -/
def nvI : Value → Int
  | .int i _ => i
  | _ => 0
def AllI (xs : Array Value) : Prop := ∀ (j : Nat) (v : Value), xs[j]? = some v → ∃ i t, v = .int i t
/-- the greatest of the first i -/
def BestOf (xs : Array Value) (i : Nat) (v : Value) : Prop := (∃ j : Nat, xs[j]? = some v) ∧ ∀ (j : Nat) (u : Value), j < i → xs[j]? = some u → nvI u ≤ nvI v
theorem BestOf.next {xs : Array Value} {i : Nat} {v u : Value} (b : BestOf xs i v) (h : xs[i]? = some u) : (decide (nvI u > nvI v) = true → BestOf xs (i + 1) u) ∧ (decide (nvI u > nvI v) = false → BestOf xs (i + 1) v) := by
  refine ⟨fun e => ⟨⟨i, h⟩, fun j x hj hx => ?_⟩, fun e => ⟨b.1, fun j x hj hx => ?_⟩⟩
  · have e := of_decide_eq_true e
    by_cases z : j = i
    · subst z
      rw [h] at hx
      cases hx
      exact Int.le_refl _
    · have := b.2 j x (by omega) hx
      omega
  · have e := of_decide_eq_false e
    by_cases z : j = i
    · subst z
      rw [h] at hx
      cases hx
      omega
    · exact b.2 j x (by omega) hx
section
variable {prog : Program} {w : World} {A : Around} {R : Result → Shared → Prop} {I l S : Addr} {d : Value} {xs : Array Value}
theorem mx_on (hh : A.handled = none) (ne : l ≠ I) (nS : S ∉ [I, l]) (hi : AllI xs) : ∀ (k i : Nat) (s : Shared) (v : Value) (c : Nat), xs.size - i = k → i ≤ xs.size → s.heap.IsListIter I l i ∧ s.heap.IsList l xs → BestOf xs i v →
    s.heap.get? S = some (seqObj "list" #[v, v] c) →
    (∀ u h' tk, BestOf xs xs.size u → (∀ b o, b ≠ I → b ≠ S → s.heap.get? b = some o → h'.get? b = some o) → R (.ok (.ret u)) { s with heap := h', toks := tk }) →
    codeAny (model prog w) A (.builtin "max.loop" ⟨[.ref I, .none, .ref S], [(Str.ofString "default", d)]⟩) R s := by
  have W := Walks.list (prog := prog) (w := w) (A := A.in1) hh I l ne xs
  have nSI : S ≠ I := fun e => nS (by rw [e]; exact List.mem_cons_self)
  intro k
  induction k with
  | zero =>
    intro i s v c hk hl st b hS q
    have e : i = xs.size := by omega
    refine codeAny_builtin F.entry_max_loop (by
      rw [Around.under_plainId F.plain_max_loop _]
      refine wpAny_bind (m := seqItems? (.ref S)) (wpAny_seqItems hS rfl ?_)
      refine wpAny_bind (wpAny_tryCatch (W.done s _ _ (e ▸ st) fun h1 tk k1 => ?_))
      have hS1 := k1 S _ (fun z => nSI (List.mem_singleton.mp z)) hS
      refine wpAny_bind (m := updateSeq S fun _ => #[]) (wpAny_updateSeq hS1 rfl (wpAny_bind (wpAny_letGo (wpAny_pure ?_))))
      exact q v _ tk (e ▸ b) fun x o n1 n2 ho => (Heap.get?_update_other _ _ n2.symm).trans (k1 x o (fun z => n1 (List.mem_singleton.mp z)) ho))
  | succ k ih =>
    intro i s v c hk hl st b hS q
    have hlt : i < xs.size := by omega
    refine codeAny_builtin F.entry_max_loop (by
      rw [Around.under_plainId F.plain_max_loop _]
      refine wpAny_bind (m := seqItems? (.ref S)) (wpAny_seqItems hS rfl ?_)
      refine wpAny_bind (wpAny_tryCatch (W.item i s _ _ hlt st fun u h1 tk hu st1 k1 => ?_))
      have hS1 := k1 S _ (fun z => nSI (List.mem_singleton.mp z)) hS
      obtain ⟨y, ty, rfl⟩ := hi i u hu
      obtain ⟨j0, hj0⟩ := b.1
      obtain ⟨z, tz, rfl⟩ := hi j0 v hj0
      obtain ⟨b1, b2⟩ := b.next hu
      refine wpAny_bind (m := tryCatch (holding [.int y ty, .int y ty] (richCompare .Gt (.int y ty) (.int z tz) >>= _)) _) (wpAny_tryCatch (wpAny_holding (wpAny_bind ((CmpOf.ints_gt (prog := prog) (w := w) (A := A.in1) (P := fun n v => v = if n = 0 then Value.int y ty else Value.int z tz) (fun n => if n = 0 then y else z) (fun n v e => by
        subst e
        by_cases h : n = 0
        · rw [if_pos h, if_pos h]
          exact ⟨_, rfl⟩
        · rw [if_neg h, if_neg h]
          exact ⟨_, rfl⟩)) 0 1 _ _ _ _ _ rfl rfl ?_))))
      refine wpAny_bind (wpAny_holding (wpAny_truthy_bool (wpAny_bind (wpAny_letGo (wpAny_pure ?_)))))
      have hq : (toString "max" ++ toString ".loop" : String) = "max.loop" := by decide
      have hS2 : ∀ (h2 : Heap), (∀ (x : Addr) (o : Obj), x ≠ S → h1.get? x = some o → h2.get? x = some o) → h2.IsListIter I l (i + 1) ∧ h2.IsList l xs := fun h2 k2 => W.frame _ _ _ st1 fun x hx o ho => k2 x o (fun e => nS (by rw [← e]; exact hx)) ho
      show wpAny _ A.in1 (if decide (y > z) = true then _ else _) _ _ _
      cases e : decide (y > z) with
      | true =>
        refine wpAny_bind (m := updateSeq S fun _ => #[.int y ty, .int y ty]) (wpAny_updateSeq hS1 rfl (wpAny_bind (wpAny_letGo ?_)))
        rw [hq]
        have up : ∀ (x : Addr) (o : Obj), x ≠ S → h1.get? x = some o → (h1.update S (Obj.mapSeq fun _ => #[.int y ty, .int y ty])).get? x = some o := fun x o n ho => (Heap.get?_update_other _ _ n.symm).trans ho
        exact wpAny_pure ⟨plainId_quiet F.plain_max_loop _, ih (i + 1) _ _ _ (by omega) hlt (hS2 _ up) (b1 e) (Heap.get?_update_self _ hS1 rfl) fun u h2 tk2 bu k2 => q u h2 tk2 bu fun x o n1 n2 ho => k2 x o n1 n2 (up x o n2 (k1 x o (fun z => n1 (List.mem_singleton.mp z)) ho))⟩
      | false =>
        refine wpAny_bind (wpAny_letGo ?_)
        rw [hq]
        exact wpAny_pure ⟨plainId_quiet F.plain_max_loop _, ih (i + 1) _ _ c (by omega) hlt st1 (b2 e) hS1 fun u h2 tk2 bu k2 => q u h2 tk2 bu fun x o n1 n2 ho => k2 x o n1 n2 (k1 x o (fun z => n1 (List.mem_singleton.mp z)) ho)⟩)
/-- the first turn: nothing is best yet -/
theorem mx_first (hh : A.handled = none) (ne : l ≠ I) (nS : S ∉ [I, l]) (hi : AllI xs) {s : Shared} {c : Nat} (st : s.heap.IsListIter I l 0 ∧ s.heap.IsList l xs) (hS : s.heap.get? S = some (seqObj "list" #[] c))
    (q : ∀ u h' tk, (xs.size = 0 → u = d) → (0 < xs.size → BestOf xs xs.size u) → (∀ b o, b ≠ I → b ≠ S → s.heap.get? b = some o → h'.get? b = some o) → R (.ok (.ret u)) { s with heap := h', toks := tk }) :
    codeAny (model prog w) A (.builtin "max.loop" ⟨[.ref I, .none, .ref S], [(Str.ofString "default", d)]⟩) R s := by
  have W := Walks.list (prog := prog) (w := w) (A := A.in1) hh I l ne xs
  have nSI : S ≠ I := fun e => nS (by rw [e]; exact List.mem_cons_self)
  refine codeAny_builtin F.entry_max_loop (by
    rw [Around.under_plainId F.plain_max_loop _]
    refine wpAny_bind (m := seqItems? (.ref S)) (wpAny_seqItems hS rfl ?_)
    by_cases hz : xs.size = 0
    · refine wpAny_bind (wpAny_tryCatch (W.done s _ _ (hz ▸ st) fun h1 tk k1 => ?_))
      have fin := q d h1 tk (fun _ => rfl) (fun h => absurd h (by omega)) fun x o n1 n2 ho => k1 x o (fun z => n1 (List.mem_singleton.mp z)) ho
      exact wpAny_bind (wpAny_rule (wpAny_pure fin))
    · refine wpAny_bind (wpAny_tryCatch (W.item 0 s _ _ (by omega) st fun u h1 tk hu st1 k1 => ?_))
      have hS1 := k1 S _ (fun z => nSI (List.mem_singleton.mp z)) hS
      refine wpAny_bind (m := updateSeq S fun _ => #[u, u]) (wpAny_updateSeq hS1 rfl ?_)
      rw [show (toString "max" ++ toString ".loop" : String) = "max.loop" from by decide]
      have up : ∀ (x : Addr) (o : Obj), x ≠ S → h1.get? x = some o → (h1.update S (Obj.mapSeq fun _ => #[u, u])).get? x = some o := fun x o n ho => (Heap.get?_update_other _ _ n.symm).trans ho
      have b1 : BestOf xs 1 u := ⟨⟨0, hu⟩, fun j x hj hx => by
        obtain rfl : j = 0 := by omega
        have hu : xs[0]? = some u := hu
        rw [hu] at hx
        cases hx
        exact Int.le_refl _⟩
      refine wpAny_pure ⟨plainId_quiet F.plain_max_loop _, mx_on hh ne nS hi (xs.size - 1) 1 _ _ _ rfl (by omega) (W.frame _ _ _ st1 fun x hx o ho => up x o (fun e => nS (by rw [← e]; exact hx)) ho) b1 (Heap.get?_update_self _ hS1 rfl) fun v h2 tk2 bu k2 => ?_⟩
      exact q v h2 tk2 (fun h => absurd h hz) (fun _ => bu) fun x o n1 n2 ho => k2 x o n1 n2 (up x o n2 (k1 x o (fun z => n1 (List.mem_singleton.mp z)) ho)))
section
variable {prog : Program} {w : World} {A : Around} {E : Value → Shared → Prop} {s : Shared} {l : Addr} {d : Value}
theorem W_frame {prog : Program} {w : World} {A : Around} {I l : Addr} {xs : Array Value} {h : Heap} {o : Obj} (hh : A.handled = none) (ne : l ≠ I) (h1 : h.IsListIter I l 0) (h2 : h.IsList l xs) : (h.push o).IsListIter I l 0 ∧ (h.push o).IsList l xs :=
  (Walks.list (prog := prog) (w := w) (A := A) hh I l ne xs).frame 0 h (h.push o) ⟨h1, h2⟩ fun b _ u e => Heap.get?_push_of_some _ e
theorem max_dflt {xs : Array Value} {Q : Value → Shared → Prop} (hh : A.handled = none) (hl : s.heap.IsList l xs) (hi : AllI xs)
    (q : ∀ u h' tk, (xs.size = 0 → u = d) → (0 < xs.size → BestOf xs xs.size u) → (∀ b o, s.heap.get? b = some o → h'.get? b = some o) → Q u { s with heap := h', toks := tk }) :
    wpAny (model prog w) A (call (.builtin "max") [.ref l] [(Str.ofString "default", d)]) Q E s := by
  refine wpAny_call (codeAny_call_builtin F.plain_max F.entry_max ?_)
  have ck : argsOk "max" ⟨[.ref l], [(Str.ofString "default", d)]⟩ := by unfold argsOk; kernel_rfl
  have body : wpAny (model prog w) A.in1 (Builtin.«max» ⟨[.ref l], [(Str.ofString "default", d)]⟩) (fun fin s' => match fin with
      | .done f => (match (Except.ok f : Result) with | .ok (.ret v) => Q v s' | .ok _ => False | .error e => E e s')
      | .again c' => c'.quiet = true ∧ codeAny (model prog w) A c' (fun r s' => match r with | .ok (.ret v) => Q v s' | .ok _ => False | .error e => E e s') s')
      (fun e s' => E e s') s := by
    refine wpAny_bind (wpAny_of_eq (show Builtin.Builtins.bindParams "max" ["key", "default"] 0 ⟨[], [(Str.ofString "default", d)]⟩ = pure [none, some d] from rfl) (wpAny_bind (wpAny_pure ?_)))
    refine wpAny_bind (wpAny_pyIter_list hl ?_)
    have I0 : (s.heap.push { cls := .type "list_iterator", data := .fields #[.ref l, .int 0 0] }).IsListIter s.heap.objs.size l 0 := ⟨_, Heap.get?_push_size _ rfl, rfl, rfl⟩
    have ll : l < s.heap.objs.size := by
      obtain ⟨_, e, _⟩ := hl
      exact Heap.lt_size e
    have hz : (s.heap.push { cls := .type "list_iterator", data := .fields #[.ref l, .int 0 0] }).objs.size = s.heap.objs.size + 1 := Heap.size_push ..
    have L0 : (s.heap.push { cls := .type "list_iterator", data := .fields #[.ref l, .int 0 0] }).IsList l xs := hl.push _
    have old : ∀ b o, s.heap.get? b = some o → (s.heap.push { cls := .type "list_iterator", data := .fields #[.ref l, .int 0 0] }).get? b = some o := fun b o e => Heap.get?_push_of_some _ e
    generalize (s.heap.push { cls := .type "list_iterator", data := .fields #[.ref l, .int 0 0] }) = h1 at I0 hz L0 old ⊢
    refine wpAny_bind (wpAny_newList ?_ (Nat.zero_le _))
    rw [show (toString "max" ++ toString ".loop" : String) = "max.loop" from by decide]
    have fr := W_frame (prog := prog) (w := w) (A := A.in1) hh (Nat.ne_of_lt ll) I0 L0 (o := seqObj "list" #[] 0)
    refine wpAny_pure ⟨plainId_quiet F.plain_max_loop _, mx_first hh (Nat.ne_of_lt ll) (fun z => ?_) hi fr (Heap.get?_push_size _ rfl) fun u h2 tk e0 e1 k2 => q u h2 tk e0 e1 fun b o hb => ?_⟩
    · rcases List.mem_cons.mp z with e | z
      · exact Nat.succ_ne_self _ (hz.symm.trans e)
      · have e := hz.symm.trans (List.mem_singleton.mp z)
        exact Nat.ne_of_gt (Nat.lt_succ_of_lt ll) e
    · have hlt := Heap.lt_size hb
      exact k2 b o (Nat.ne_of_lt hlt) (Nat.ne_of_lt (by rw [hz]; exact Nat.lt_succ_of_lt hlt)) (Heap.get?_push_of_some _ (old b o hb))
  simp only [checkBuiltinCall, F.kind_max]
  cases hsig : Manifest.signature? "max" with
  | none => exact wpAny_pure body
  | some sig =>
    have ck' : Bind.checkArgs "max" sig ⟨[.ref l], [(Str.ofString "default", d)]⟩ = pure () := by simpa only [argsOk, hsig] using ck
    simp only [ck']
    exact wpAny_pure body
end
end
/-- the greatest of these, or d where there is none -/
def GrOr (ns : List Int) (d m : Int) : Prop := (ns = [] ∧ m = d) ∨ (m ∈ ns ∧ ∀ x ∈ ns, x ≤ m)
def rMaxD (K : PySem.W.Frag) : List V → List V → Hp → VK → Prop := fun vs zs H Q => ∃ (a : Addr) (ns : List Int) (d : Int), vs = [V.ref a] ∧ zs = [.int d] ∧ SqL K H a (ns.map V.int) ∧ ∀ m, GrOr ns d m → Q (.int m) H
theorem allI_of {vs : List Value} {ns : List Int} (h : IntsAre vs ns) : AllI vs.toArray := fun j v e => by
  rw [List.getElem?_toArray] at e
  obtain ⟨m, t, e, _⟩ := h.at j v e
  exact ⟨m, t, e⟩
theorem best_of {vs : List Value} {ns : List Int} (h : IntsAre vs ns) {u : Value} (b : BestOf vs.toArray vs.toArray.size u) : ∃ m t, u = .int m t ∧ m ∈ ns ∧ ∀ x ∈ ns, x ≤ m := by
  obtain ⟨⟨j, hj⟩, hb⟩ := b
  rw [List.getElem?_toArray] at hj
  obtain ⟨m, t, rfl, hm⟩ := h.at j _ hj
  refine ⟨m, t, rfl, List.mem_of_getElem? hm, fun x hx => ?_⟩
  obtain ⟨i, hi⟩ := List.mem_iff_getElem?.mp hx
  have il : i < vs.length := by
    rw [h.length]
    exact (List.getElem?_eq_some_iff.mp hi).1
  obtain ⟨n, tn, e, hn⟩ := h.at i _ (List.getElem?_eq_getElem il)
  rw [hi] at hn
  cases hn
  have := hb i vs[i] (by rw [List.size_toArray]; exact il) (by rw [List.getElem?_toArray]; exact List.getElem?_eq_getElem il)
  rw [e] at this
  exact this
theorem cr_maxD {X : Cx} (hc : X.calm = true) : CallRK X (.builtin "max") [Str.ofString "default"] (rMaxD X.K) := by
  intro pins s σ H vs zs us ws Q I r rz h
  obtain ⟨a, ns, d, rfl, rfl, hs, q⟩ := h
  obtain ⟨its, rv, hl, _⟩ := I.list hs
  obtain rfl := Vals.ref1 r
  obtain ⟨w1, rfl, e1⟩ := vals1 rz
  obtain ⟨t1, rfl⟩ : ∃ t, w1 = Value.int d t := e1
  have hi := rv.ints
  have hlen := hi.length
  show wpAny (model X.prog X.w) X.A (call (.builtin "max") [.ref a] [(Str.ofString "default", .int d t1)]) _ _ s
  refine max_dflt (I.ok.hd hc) hl.isList (allI_of hi) fun u h' tk e0 e1 k => ?_
  by_cases z : ns = []
  · have := e0 (by rw [List.size_toArray, hlen, z]; rfl)
    subst this
    exact ⟨.int d, H, I.kept k, ⟨_, rfl⟩, q d (.inl ⟨z, rfl⟩)⟩
  · obtain ⟨m, t, rfl, h1, h2⟩ := best_of hi (e1 (by rw [List.size_toArray, hlen]; exact List.length_pos_iff.mpr z))
    exact ⟨.int m, H, I.kept k, ⟨_, rfl⟩, q m (.inr ⟨h1, h2⟩)⟩
end TG
set_option maxHeartbeats 400000
/-! sorted(d, reverse=b), the keys of d integers -/
namespace TG
open PySem PySem.Spec L2
open PyProof.Rows hiding St
def rSortedDKw (b : Bool) : List V → List V → Hp → VK → Prop := fun vs zs H Q => ∃ (a : Addr) (kvs : List (Key × V)) (ns : List Int), vs = [V.ref a] ∧ zs = [.bl b] ∧ Rd H a (.dK kvs) ∧ kvs.map (·.1) = ns.map Sum.inl ∧
  ∀ (ns' : List Int) (p : Addr), ns'.Perm ns → OrdB b ns' → H p = none → Q (.ref p) (upd H p (.lst (ns'.map V.int)))
section
variable {X : Cx}
theorem cr_sortedDRev {b : Bool} (hc : X.calm = true) : CallRK X (.builtin "sorted") [Str.ofString "reverse"] (rSortedDKw b) := by
  intro pins s σ H vs zs us ws Q I r rz h
  obtain ⟨a, kvs, ns, rfl, rfl, hd, hk, q⟩ := h
  obtain rfl := Vals.ref1 r
  obtain ⟨w1, rfl, e1⟩ := vals1 rz
  obtain rfl : w1 = Value.bool b := e1
  obtain ⟨z, lo, us0, rel, o, es, ep, d1, d2, d3, d4, d5, d6⟩ := dk_rd I.hok hd
  have hl := rel.length
  have big : us0.length ≤ sizeLine := by omega
  refine call_function_entry_kw PyProof.Rows.kind_sorted PyProof.Rows.plain_sorted PyProof.Rows.entry_sorted (PyProof.Rows.args_sorted_rev _ _) ?_
  unfold Builtin.«sorted»
  refine wpAny_bind (m := checkCount "sorted" 1 1 _) (wpAny_pure (wpAny_bind (collect_src (A := X.A.in1) (n := us0.length) (PySem.W.kdl_dict (kvs := us0) (ep := ep) lo) (I.ok.hd hc) ⟨o, es, d1, d2, d3, d4, d5, d6⟩ ?_ ?_)))
  · intro h' tk acc kp it
    have rv : Vals (ns.map V.int) acc.toList := by
      have l0 : ns.length = kvs.length := by
        have := congrArg List.length hk
        rw [List.length_map, List.length_map] at this
        omega
      refine vals_of ((List.length_map _).trans ((l0.trans hl).trans (it.1.symm.trans Array.length_toList.symm))) fun i x u hx hu => ?_
      rw [List.getElem?_map] at hx
      obtain ⟨n, hn, rfl⟩ := Option.map_eq_some_iff.mp hx
      obtain ⟨k, x2, e1, e2⟩ := it.2 i u (by rw [← Array.getElem?_toList]; exact hu)
      have hki : (kvs.map (·.1))[i]? = some (Sum.inl n) := by rw [hk, List.getElem?_map, hn]; rfl
      rw [List.getElem?_map] at hki
      obtain ⟨kv, hkv, ek⟩ := Option.map_eq_some_iff.mp hki
      obtain ⟨y, hy⟩ := kv_key (i := i) (k := kv.1) (x := kv.2) rel hkv
      rw [hy] at e1
      cases e1
      rw [ek] at e2
      exact rel_kV (k := (Sum.inl n : Key)) e2
    have hi := rv.ints
    have J1 : Inv X pins σ H { s with heap := h', toks := tk } := I.kept (t' := tk) kp
    have few : acc.toList.length ≤ sizeLine := Nat.le_trans (Nat.le_of_eq ((Array.length_toList).trans it.1)) big
    refine wpAny_bind (wpAny_newList ?_ few)
    have at1 : (h'.push (seqObj "list" acc.toList.toArray 0)).get? h'.objs.size = some (seqObj "list" acc.toList.toArray 0) := Heap.get?_push_size _ rfl
    show wpAny _ _ _ _ _ { s with heap := h'.push (seqObj "list" acc.toList.toArray 0), toks := tk }
    refine wpAny_bind (wpAny_holding (wpAny_call_entry_kw PyProof.Rows.slot_list_sort ⟨_, at1, rfl⟩ PyProof.Rows.entry_list_sort
      (SrtR.list_sort_ordR (s := { s with heap := h'.push (seqObj "list" acc.toList.toArray 0), toks := tk }) (b := b) SrtO.swo_int at1 few (fun h2 => SrtO.ints_sortable hi h2) fun out o1 o2 => ⟨_, rfl, ?_⟩) (PyProof.Rows.args_list_sort_rev _ _)))
    obtain ⟨ns', k1, k2, k3⟩ := SrtR.ints_outR hi o1 o2
    have lo : (ns'.map V.int).length ≤ sizeLine := by
      rw [List.length_map, k2.length_eq, hi.length.symm]
      exact few
    obtain ⟨e', he'⟩ := PyProof.Rows.sortedHeap_at (vs := acc.toList) (out := if b = true then out.toArray.reverse else out.toArray) at1
    refine wpAny_pure ⟨_, rfl, .ref h'.objs.size, upd H h'.objs.size (.lst (ns'.map V.int)), J1.laid (t' := tk) (fun c u e => ?_) (Nat.le_refl _) (show ObjOk X.prog X.w _ _ _ (.lst (ns'.map V.int)) from ⟨lo, _, e', vals_of_ints k1, by rw [Array.toArray_toList]; exact he'⟩), rfl, q ns' _ k2 k3 (J1.hok.fresh (Nat.le_refl _))⟩
    have lt : c < h'.objs.size := Heap.lt_size e
    rw [PyProof.Rows.sortedHeap_old (Nat.ne_of_lt lt) (by rw [size_push']; exact Nat.lt_succ_of_lt lt)]
    exact Heap.get?_push_of_some _ e
  · exact big
end
end TG
set_option maxHeartbeats 400000
/-! enumerate(x), x a list or a tuple -/
namespace TG
open PySem PySem.Spec L2
open PyProof.Rows hiding St
def iEnumX (K : PySem.W.Frag) (ta : L2.TA) : TI := fun σ H R => ta σ H fun vs H1 => ∃ a xs, vs = [.ref a] ∧ SqX K H1 a xs ∧
  ∀ (J : It) (G : Hp → Prop), Walk J xs.length G (YPair (fun i => some (.int (i : Nat))) (fun i => xs[i]?)) → (∀ H2, (∀ o, H1 a = some o → H2 a = some o) → G H2) → R J H1
theorem pi_enumX {X : Cx} {e : Expr} {ta : L2.TA} {p pos tpos : Pos} {elts : List Expr} {kk : Nat} (hg : Gl X "enumerate") (hm : X.mg "enumerate" = none) (ha : PA X [e] ta) (hs : starEach [e] X.env = [(false, eval e X.env)] := by rfl) :
    PI X (.Tuple elts kk tpos) (.Call (.Name "enumerate" p) [e] [] pos) (iEnumX X.K ta) := by
  refine ⟨fun pins s σ H R I h => Call_ (ld_blt I hg hm boot_enumerate (PyProof.Rows.callWith_type1 (thn (ha.run pos pins s σ H _ I h) fun us s1 ⟨vs, H1, I1, r1, q1⟩ => ?_) hs rfl))⟩
  obtain ⟨a, xs, rfl, hq, q⟩ := q1
  cases Vals.ref1 r1
  have up : ∀ {h2 : Heap} (b : Addr), b ∈ [s1.heap.objs.size + 1, s1.heap.objs.size] → FpOk X pins H1 b := fun b hb => by
    have lb : s1.heap.objs.size ≤ b := by
      rcases List.mem_cons.mp hb with rfl | hb
      · exact Nat.le_succ _
      · exact Nat.le_of_eq (List.mem_singleton.mp hb).symm
    exact I1.fpOk lb (I1.hok.fresh lb)
  rcases hq with hq | hq
  · obtain ⟨its, rv, pl, _⟩ := I1.list hq
    refine call_enumerate_list pl.isList fun h2 he hit _ hk => wpAny_pyIter_enum he ⟨s1.heap.objs.size + 1, [s1.heap.objs.size + 1, s1.heap.objs.size], _, _, H1, rfl, I1.kept (t' := s1.toks) hk, turn_enum a (s1.heap.objs.size + 1) s1.heap.objs.size, ⟨⟨.none, he⟩, hit, Nat.succ_ne_self _⟩, up (h2 := h2), ?_⟩
    exact q _ _ walk_enum fun H2 k => hq.imp (Or.imp (k _) fun ⟨o, z⟩ => ⟨o, k _ z⟩) id
  · obtain ⟨its, rv, tp, _⟩ := I1.tuple hq
    refine call_enum1 (begins_tuple a its.toArray) tp fun h2 he hit hk => wpAny_pyIter_enum he ⟨s1.heap.objs.size + 1, [s1.heap.objs.size + 1, s1.heap.objs.size], _, _, H1, rfl, I1.kept (t' := s1.toks) hk, turn_enumT a (s1.heap.objs.size + 1) s1.heap.objs.size, ⟨⟨.none, he⟩, ⟨_, hit, rfl, rfl⟩, Nat.succ_ne_self _⟩, up (h2 := h2), ?_⟩
    exact q _ _ walk_enumT fun H2 k => hq.imp (Or.imp (k _) fun ⟨o, z⟩ => ⟨o, k _ z⟩) id
end TG
set_option maxHeartbeats 400000
/-! terms in groups by their first power; the worth reckoned from the greatest power down -/
namespace TG
open PySem PySem.Spec L2
open PyProof.Rows hiding St
theorem map_inj {α β : Type} {f : α → β} : ∀ {l : List α} {a b : α}, (l.map f).Nodup → a ∈ l → b ∈ l → f a = f b → a = b
  | [], _, _, _, h, _, _ => absurd h List.not_mem_nil
  | x :: l, a, b, n, ha, hb, e => by
    obtain ⟨n1, n2⟩ := List.nodup_cons.mp (show (f x :: l.map f).Nodup from n)
    rcases List.mem_cons.mp ha with ea | ha2
    · rcases List.mem_cons.mp hb with eb | hb2
      · rw [ea, eb]
      · exact absurd (List.mem_map.mpr ⟨b, hb2, by rw [← e, ea]⟩) n1
    · rcases List.mem_cons.mp hb with eb | hb2
      · exact absurd (List.mem_map.mpr ⟨a, ha2, by rw [e, eb]⟩) n1
      · exact map_inj n2 ha2 hb2 e
abbrev kvG (gs : List (Int × Addr)) : List (Key × V) := gs.map fun g => ((Sum.inl g.1 : Key), V.ref g.2)
structure GrpAt (H G : Hp) (D : Addr) (m : Int → Prop) (gs : List (Int × Addr)) (T : List (List Int × Int)) : Prop where
  d : G D = some (.dK (kvG gs))
  n1 : (gs.map (·.1)).Nodup
  n2 : (gs.map (·.2)).Nodup
  l : ∀ g ∈ gs, H g.2 = none ∧ m g.1 ∧ ∃ es, G g.2 = some (.lst es) ∧ Paired (TermH G) es (grp T g.1)
  t : ∀ t ∈ T, t.1.headD 0 ∈ gs.map (·.1)
  s : Same H G
theorem GrpAt.same {H G G' : Hp} {D : Addr} {m : Int → Prop} {gs : List (Int × Addr)} {T : List (List Int × Int)} (h : GrpAt H G D m gs T) (k : Same G G') : GrpAt H G' D m gs T :=
  ⟨k _ _ h.d, h.n1, h.n2, fun g hg => by
    obtain ⟨h1, h2, es, h3, h4⟩ := h.l g hg
    exact ⟨h1, h2, es, k _ _ h3, paired_imp (fun _ _ r => r.same k) h4⟩, h.t, h.s.trans k⟩
/-- a new group -/
theorem GrpAt.new {H G : Hp} {D L : Addr} {m : Int → Prop} {gs : List (Int × Addr)} {T : List (List Int × Int)} {p : Int} (h : GrpAt H G D m gs T) (hL : G L = some (.lst [])) (hn : H L = none) (hd : H D = none) (ng : ∀ g ∈ gs, g.2 ≠ L) (np : p ∉ gs.map (·.1)) (h0 : m p) :
    GrpAt H (L2.upd G D (.dK (kvG (gs ++ [(p, L)])))) D m (gs ++ [(p, L)]) T := by
  have ne : ∀ {a : Addr} {xs : List V}, G a = some (.lst xs) → a ≠ D := fun ha e => by
    rw [e, h.d] at ha
    cases ha
  refine ⟨upd_same, ?_, ?_, fun g hg => ?_, fun t ht => ?_, fun b o hb => ?_⟩
  · rw [List.map_append, List.nodup_append]
    refine ⟨h.n1, List.nodup_cons.mpr ⟨List.not_mem_nil, .nil⟩, ?_⟩
    rintro a ha b hb rfl
    exact np (by rw [← show a = p from List.mem_singleton.mp hb]; exact ha)
  · rw [List.map_append, List.nodup_append]
    refine ⟨h.n2, List.nodup_cons.mpr ⟨List.not_mem_nil, .nil⟩, ?_⟩
    rintro a ha b hb rfl
    obtain ⟨g, hg, e⟩ := List.mem_map.mp ha
    exact ng g hg (e.trans (List.mem_singleton.mp hb))
  · rcases List.mem_append.mp hg with hg | hg
    · obtain ⟨a1, a2, es, a3, a4⟩ := h.l g hg
      exact ⟨a1, a2, es, (upd_ne (ne a3)).trans a3, paired_imp (fun _ _ r => r.updD h.d) a4⟩
    · obtain rfl := List.mem_singleton.mp hg
      refine ⟨hn, h0, [], (upd_ne (ne hL)).trans hL, ?_⟩
      have e : grp T p = [] := by
        unfold grp
        rw [List.filter_eq_nil_iff.mpr fun t ht => ?_]
        · rfl
        · intro z
          have z := of_decide_eq_true z
          exact np (z ▸ h.t t ht)
      rw [e]
      exact .nil
  · rw [List.map_append]
    exact List.mem_append_left _ (h.t t ht)
  · rw [upd_ne (ne_of_none hb hd)]
    exact h.s b o hb
/-- a term put to its group -/
theorem GrpAt.push {H G : Hp} {D : Addr} {m : Int → Prop} {gs : List (Int × Addr)} {T : List (List Int × Int)} {t : List Int × Int} {g : Int × Addr} {es : List V} {e : V} (h : GrpAt H G D m gs T) (hg : g ∈ gs) (ht : t.1.headD 0 = g.1) (hes : G g.2 = some (.lst es)) (he : TermH G e (t.1.tail, t.2)) :
    GrpAt H (L2.upd G g.2 (.lst (es ++ [e]))) D m gs (T ++ [t]) := by
  have neD : D ≠ g.2 := fun z => by
    have := h.d
    rw [z, hes] at this
    cases this
  refine ⟨(upd_ne neD).trans h.d, h.n1, h.n2, fun g' hg' => ?_, fun y hy => ?_, fun b o hb => ?_⟩
  · obtain ⟨a1, a2, es', a3, a4⟩ := h.l g' hg'
    refine ⟨a1, a2, ?_⟩
    by_cases z : g' = g
    · subst z
      rw [hes] at a3
      cases a3
      refine ⟨_, upd_same, ?_⟩
      rw [grp_snoc, if_pos ht]
      exact paired_snoc (he.updL hes) (paired_imp (fun _ _ r => r.updL hes) a4)
    · refine ⟨es', (upd_ne fun q => z (map_inj h.n2 hg' hg q)).trans a3, ?_⟩
      rw [grp_snoc, if_neg fun q => z (map_inj h.n1 hg' hg (q.symm.trans ht))]
      exact paired_imp (fun _ _ r => r.updL hes) a4
  · rcases List.mem_append.mp hy with hy | hy
    · exact h.t y hy
    · rw [List.mem_singleton.mp hy, ht]
      exact List.mem_map.mpr ⟨g, hg, rfl⟩
  · rw [upd_ne (ne_of_none hb (h.l g hg).1)]
    exact h.s b o hb
theorem kvG_some {gs : List (Int × Addr)} {p : Int} {v : V} (h : L2.valV (kvG gs) (Sum.inl p : Key) = some v) : ∃ g ∈ gs, g.1 = p ∧ v = .ref g.2 := by
  obtain ⟨g, hg, e⟩ := List.mem_map.mp (mem_of_valV h)
  injection e with e1 e2
  injection e1 with e1
  exact ⟨g, hg, e1, e2.symm⟩
theorem kvG_none {gs : List (Int × Addr)} {p : Int} (h : L2.valV (kvG gs) (Sum.inl p : Key) = none) : p ∉ gs.map (·.1) := fun hp => by
  obtain ⟨g, hg, e⟩ := List.mem_map.mp hp
  have a : ((kvG gs).any fun kv => decide (kv.1 = (Sum.inl p : Key))) = true := List.any_eq_true.mpr ⟨_, List.mem_map.mpr ⟨g, hg, rfl⟩, decide_eq_true (by rw [e])⟩
  rw [valV_any, h] at a
  cases a
theorem kvG_get {gs : List (Int × Addr)} {g : Int × Addr} (n : (gs.map (·.1)).Nodup) (hg : g ∈ gs) : L2.valV (kvG gs) (Sum.inl g.1 : Key) = some (.ref g.2) := by
  cases h : L2.valV (kvG gs) (Sum.inl g.1 : Key) with
  | none => exact absurd (List.mem_map.mpr ⟨g, hg, rfl⟩) (kvG_none h)
  | some v =>
    obtain ⟨g', h1, h2, rfl⟩ := kvG_some h
    rw [map_inj n h1 hg h2]
theorem setd_or {Q : V → Hp → Prop} {kvs : List (Key × V)} {k : Key} {z : V} {G : Hp} {a : Addr} (C : V → Hp → Prop) (h1 : ∀ v, L2.valV kvs k = some v → C v G) (h2 : L2.valV kvs k = none → C z (L2.upd G a (.dK (putK kvs k z)))) (h : ∀ v G2, C v G2 → Q v G2) :
    (∀ v, L2.valV kvs k = some v → Q v G) ∧ (L2.valV kvs k = none → Q z (L2.upd G a (.dK (putK kvs k z)))) := ⟨fun v e => h v G (h1 v e), fun e => h z _ (h2 e)⟩
/-- from the greatest power down to cur -/
def horn (x : Int) (w : Int → Int) (ds : List Int) (cur : Int) : Int := (ds.map fun p => x ^ (p - cur).toNat * w p).sum
theorem sum_mul {α : Type} (f : α → Int) (k : Int) : ∀ l : List α, (l.map f).sum * k = (l.map fun x => f x * k).sum
  | [] => Int.zero_mul k
  | x :: l => by rw [List.map_cons, List.map_cons, List.sum_cons, List.sum_cons, Int.add_mul, sum_mul f k l]
theorem horn_down {x : Int} {w : Int → Int} {ds : List Int} {cur q : Int} (h : ∀ p ∈ ds, cur ≤ p) (hq : q ≤ cur) : horn x w ds cur * x ^ (cur - q).toNat = horn x w ds q := by
  unfold horn
  rw [sum_mul]
  congr 1
  refine List.map_congr_left fun p hp => ?_
  have := h p hp
  rw [show (p - q).toNat = (p - cur).toNat + (cur - q).toNat from by omega, Int.pow_add, Int.mul_assoc, Int.mul_assoc, Int.mul_comm (w p)]
theorem horn_snoc {x : Int} {w : Int → Int} {ds : List Int} {q : Int} : horn x w ds q + w q = horn x w (ds ++ [q]) q := by
  unfold horn
  rw [List.map_append, List.sum_append]
  show _ = _ + (x ^ (q - q).toNat * w q + 0)
  rw [Int.sub_self, Int.toNat_zero, Int.pow_zero, Int.one_mul, Int.add_zero]
theorem horn_zero {x : Int} {w : Int → Int} {ds : List Int} (h : ∀ p ∈ ds, (0 : Int) ≤ p) : horn x w ds 0 = (ds.map fun p => x ^ p.toNat * w p).sum := by
  unfold horn
  congr 1
  refine List.map_congr_left fun p hp => ?_
  rw [Int.sub_zero]
theorem horn_bd {x cur : Int} {w : Int → Int} {ds : List Int} {c k m L : Nat} (hx : XmOk c (x, m)) (h0 : 0 ≤ cur) (h : ∀ p ∈ ds, cur ≤ p ∧ p ≤ (m : Int) ∧ 0 ≤ w p ∧ w p ≤ (L : Int) * 2 ^ k) : 0 ≤ horn x w ds cur ∧ horn x w ds cur ≤ ((ds.length * L : Nat) : Int) * 2 ^ (c + k) := by
  have M0 : (0 : Int) ≤ (L : Int) * 2 ^ (c + k) := Int.mul_nonneg (Int.natCast_nonneg _) (Int.le_of_lt (pow2_nn _))
  have z := sum_le (f := fun p => x ^ (p - cur).toNat * w p) M0 (l := ds) fun p hp => by
    obtain ⟨h1, h2, h3, h4⟩ := h p hp
    have a0 : 0 ≤ x ^ (p - cur).toNat := Int.pow_nonneg hx.1
    have a1 : x ^ (p - cur).toNat ≤ 2 ^ c := hx.2 _ (by show (p - cur).toNat ≤ m; omega)
    refine ⟨Int.mul_nonneg a0 h3, ?_⟩
    have e : (L : Int) * 2 ^ (c + k) = 2 ^ c * ((L : Int) * 2 ^ k) := by rw [Int.pow_add, Int.mul_left_comm]
    rw [e]
    exact Int.mul_le_mul a1 h4 h3 (Int.le_of_lt (pow2_nn c))
  refine ⟨z.1, ?_⟩
  rw [Int.natCast_mul, Int.mul_assoc]
  exact z.2
end TG
namespace TG
open PySem PySem.Spec L2
open PyProof.Rows hiding St
theorem paired_by {α β : Type} {R : α → β → Prop} : ∀ {xs : List α} {ys : List β}, xs.length = ys.length → (∀ (i : Nat) (x : α) (y : β), xs[i]? = some x → ys[i]? = some y → R x y) → Paired R xs ys
  | [], [], _, _ => .nil
  | [], _ :: _, h, _ => by cases h
  | _ :: _, [], h, _ => by cases h
  | x :: xs, y :: ys, h, r => .cons (r 0 x y rfl rfl) (paired_by (by simpa using h) fun i a b ha hb => r (i + 1) a b ha hb)
theorem pow_bd {x : Int} {e i k : Nat} (h0 : 0 ≤ x) (h : x ≤ 2 ^ e) (hi : i ≤ k) : x ^ i ≤ 2 ^ (e * k) := by
  have h1 : x ^ i ≤ (2 : Int) ^ (e * i) := by
    clear hi
    induction i with
    | zero => rw [Nat.mul_zero, Int.pow_zero, Int.pow_zero]; exact Int.le_refl _
    | succ i ih =>
      rw [Int.pow_succ, Nat.mul_succ, Int.pow_add]
      exact Int.mul_le_mul ih h h0 (Int.le_of_lt (pow2_nn _))
  exact Int.le_trans h1 (pow2_le (Nat.mul_le_mul_left e hi))
end TG
namespace TF52
open PySem PySem.Spec L2 TG TA
open PyProof.Rows hiding St
/-! ### worth of a polynomial at numbers, by ladders of powers -/
abbrev sChN : Stmt := top 30
abbrev sPwA : Stmt := top 42
abbrev sWor : Stmt := top 39
abbrev sWrA : Stmt := top 40
theorem scChN : FnScope ["choice", "number", "sign"] ["choice"] (defScope sChN) := ⟨rfl, rfl, rfl, by decide +kernel, rfl, by decide +kernel, by decide +kernel⟩
theorem scPwA : FnScope ["terms", "place", "powers", "_"] ["terms", "place"] (defScope sPwA) := ⟨rfl, rfl, rfl, by decide +kernel, rfl, by decide +kernel, by decide +kernel⟩
theorem scWor : FnScope ["terms", "ladders", "_", "share", "inner", "powers", "total", "ahead", "power"] ["terms", "ladders"] (defScope sWor) := ⟨rfl, rfl, rfl, by decide +kernel, rfl, by decide +kernel, by decide +kernel⟩
theorem scWrA : FnScope ["terms", "numbers", "ladders", "place", "number"] ["terms", "numbers"] (defScope sWrA) := ⟨rfl, rfl, rfl, by decide +kernel, rfl, by decide +kernel, by decide +kernel⟩
/-- a choice as a number, its signs as bits -/
def bitsN (n : Int) : List Int → Int
  | [] => n
  | s :: r => bitsN (2 * n + s) r
theorem bitsN_snoc (s : Int) : ∀ (r : List Int) (n : Int), bitsN n (r ++ [s]) = 2 * bitsN n r + s
  | [], _ => rfl
  | _ :: r, _ => bitsN_snoc s r _
def spChN : Sp := fun vs H Q _ => ∃ (v : V) (c : List Int), vs = [v] ∧ TupAt H v c ∧ c.length ≤ 3 ∧ (∀ s ∈ c, s = 0 ∨ s = 1) ∧ Q (.int (bitsN 0 c)) H
def spPwA : Sp := fun vs H Q _ => ∃ (v : V) (j : Nat) (ts : List (List Int × Int)), vs = [v, .int (j : Int)] ∧ TermsV H v ts ∧ ts.length ≤ 900 ∧ (∀ t ∈ ts, j < t.1.length) ∧ ∀ (m : Int) (H' : Hp), Same H H' → GrOr (ts.map fun t => t.1.getD j 0) 0 m → Q (.int m) H'
/-- the powers of a number from the 0th to the m-th, in a list -/
def LadAt (H : Hp) (e : V) (q : Int × Nat) : Prop := ∃ b, e = .ref b ∧ H b = some (.lst ((List.range (q.2 + 1)).map fun i => V.int (q.1 ^ i)))
theorem LadAt.same {H H' : Hp} {e : V} {q : Int × Nat} (h : LadAt H e q) (s : Same H H') : LadAt H' e q := by
  obtain ⟨b, e, h⟩ := h
  exact ⟨b, e, s _ _ h⟩
/-- terms at numbers, told as a list or a tuple: powers at most k, numbers at most 2 ** e -/
def spWrA : Sp := fun vs H Q _ => ∃ (v u : V) (ts : List (List Int × Int)) (xs : List Int) (e k b : Nat), vs = [v, u] ∧ TermsV H v ts ∧ SeqI H u xs ∧ xs.length ≤ 3 ∧ ts.length ≤ 500 ∧ b ≤ 100000 ∧ e * k ≤ 10000 ∧ (e ≤ 10000 ∧ k ≤ 10000) ∧
  (∀ x ∈ xs, 0 ≤ x ∧ x ≤ 2 ^ e) ∧ (∀ t ∈ ts, t.1.length = xs.length ∧ (∀ p ∈ t.1, 0 ≤ p ∧ p ≤ (k : Int)) ∧ 0 ≤ t.2 ∧ t.2 ≤ 2 ^ b) ∧ ∀ H', Same H H' → Q (.int (wvT xs ts)) H'
def spWor (n : Nat) : Sp := fun vs H Q _ => ∃ (v : V) (l : Addr) (ts : List (List Int × Int)) (xm : List (Int × Nat)) (les : List V) (b c : Nat), vs = [v, .ref l] ∧ xm.length < n ∧ xm.length ≤ 3 ∧ TermsV H v ts ∧ H l = some (.lst les) ∧ Paired (LadAt H) les xm ∧ ts.length ≤ 500 ∧ b ≤ 100000 ∧ c ≤ 10000 ∧
  (∀ q ∈ xm, XmOk c q) ∧ (∀ t ∈ ts, TmOk b xm t) ∧ ∀ H', Same H H' → Q (.int (wvT (xm.map (·.1)) ts)) H'
section
variable {P : Program} {w : World} {K : PySem.W.Frag} {mg : Str → Option Value} {base : Heap} {f f1 f2 f3 : Addr} {fd fd1 fd2 fd3 : FuncData}
theorem ok_chn (F : Fun K "choice_number" "choice_number" sChN f fd) (T : Bn mg) : FnOk P w K mg base CX0 1 f fd ["choice"] spChN := by
  refine F.ok scChN (fun vs H Q E h => ?_) (fun cdv A outer s H vs Q E hr h => ?_)
  · obtain ⟨v, c, rfl, _⟩ := h
    rfl
  obtain ⟨_, c, rfl, ⟨a, rfl, ha⟩, hl, hc, q⟩ := h
  refine ⟨_, (pss_cons (ps_set (i := 1) scChN.nd rfl (.inl rfl) pe_int)
      (pss_cons (ps_for PassesOwn.never rfl (pi_tup (pv 0)) (pg_name (i := 2) scChN.nd rfl (.inl rfl))
        (pss_one (ps_set (i := 1) scChN.nd rfl (.inl rfl) (pe_op op_add (pe_op op_mul pe_int (pv 1)) (pv 2)))))
      (pss_one (ps_ret (pv 1))))), ?_⟩
  refine ⟨_, rfl, a, rfl, ⟨_, SqT.of ha⟩, ?_⟩
  refine for_tup (K := K) (a := a) (xs := c.map V.int) (fun i σ G => (∃ v2, σ = [some (.ref a), some (.int (bitsN 0 (c.take i))), v2]) ∧ G = H) ⟨⟨_, rfl⟩, rfl⟩ ?_ ?_ ?_
  · rintro i σ G _ ⟨_, rfl⟩
    exact SqT.of ha
  · rintro i x σ G hx ⟨⟨v2, rfl⟩, rfl⟩
    rw [List.getElem?_map] at hx
    obtain ⟨s1, hs, rfl⟩ := Option.map_eq_some_iff.mp hx
    refine ⟨_, rfl, _, _, rfl, rfl, .inl ⟨by decide, by decide⟩, _, rfl, _, _, rfl, rfl, ⟨some (.int s1), ?_⟩, rfl⟩
    rw [take_snoc hs, bitsN_snoc]
    rfl
  · rintro σ G ⟨⟨v2, rfl⟩, rfl⟩
    rw [List.length_map, List.take_of_length_le (Nat.le_refl _)]
    exact ⟨_, rfl, q⟩
theorem ok_pwa (F : Fun K "power_at" "power_at" sPwA f fd) (T : Bn mg) : FnOk P w K mg base CX0 1 f fd ["terms", "place"] spPwA := by
  refine F.ok scPwA (fun vs H Q E h => ?_) (fun cdv A outer s H vs Q E hr h => ?_)
  · obtain ⟨v, j, ts, rfl, _⟩ := h
    rfl
  obtain ⟨_, j, ts, rfl, ⟨a, es, rfl, ha, hes⟩, hl, hj, q⟩ := h
  refine ⟨_, (pss_one (ps_ret (pe_callBK (cr_maxD rfl) (by rfl) T.b_max (by decide +kernel) (pa_cons (pe_lc (own := [("powers", 2), ("_", 3)]) (g := (gTup K 2 (gCons (gName 2) (gCons (gName 3) gNil)))) (by rfl) scPwA.nd (pi_seq (pv 0)) (blkOk_by (own := [("powers", 2), ("_", 3)]) (N := ["terms", "place", "powers", "_"]) (sc := defScope sPwA) (by decide +kernel)) (fun _ _ _ _ _ => (pg_tup (by rfl) (pgs_cons (pg_name (i := 2) scPwA.nd rfl (.inl rfl)) (pgs_cons (pg_name (i := 3) scPwA.nd rfl (.inl rfl)) pgs_nil)))) (fun _ _ _ _ _ => pts_nil) (fun _ _ _ _ _ => (pe_ix (show IxR _ (rIxT K) from ix_tup) (pv 2) (pv 1) (fun _ _ => rfl)))) pa_nil) (pk_cons pe_int pk_nil)))), ?_⟩
  refine ⟨_, rfl, a, es, rfl, SqX.of ha, fun J Gd w stay D hD => ?_⟩
  have les := TG.paired_len hes
  refine walk_in w (fun i G => Same H G ∧ G D = some (.lst (((ts.map fun t => t.1.getD j 0).take i).map V.int))) ?_ ?_ ?_ ?_
  · exact ⟨new_same hD, upd_same⟩
  · rintro i G _ ⟨sG, _⟩
    exact stay G fun o ho => sG _ _ ho
  · rintro i x G _ hi ⟨sG, hds⟩ ⟨rfl, hx⟩
    obtain ⟨t, ht, ⟨b, u, rfl, hb, hu⟩⟩ := TG.paired_get hes hx
    have ti := lt_get ht
    have jt := hj t (List.mem_of_getElem? ht)
    refine ⟨b, _, rfl, SqT.of (sG _ _ hb), rfl, _, _, rfl, _, _, rfl, rfl, rfl, ?_⟩
    have gj : (t.1.map V.int)[j]? = some (.int (t.1.getD j 0)) := by
      rw [List.getElem?_map, List.getElem?_eq_getElem jt, List.getD_eq_getElem?_getD, List.getElem?_eq_getElem jt]
      rfl
    refine ⟨_, rfl, _, rfl, u, _, (j : Int), .int (t.1.getD j 0), rfl, rfl, SqT.of (sG _ _ hu), atI_nat gj, _, hds, small1000 (by rw [List.length_map, List.length_take, List.length_map]; omega), same_put sG hD, ?_⟩
    · rw [upd_same, take_snoc (x := t.1.getD j 0) (by rw [List.getElem?_map, ht]; rfl), List.map_append]
      rfl
  · rintro G ⟨sG, hds⟩
    refine ⟨_, _, _, rfl, rfl, SqL.of hds, fun m hm => q m G sG ?_⟩
    rw [List.take_of_length_le (by rw [List.length_map, les]; exact Nat.le_refl _)] at hm
    exact hm
theorem ok_wor (F : Fun K "worth" "worth" sWor f fd) (T : Bn mg) (D_worth : Df K mg "worth" sWor f fd ["terms", "ladders"]) (D_power_at : Df K mg "power_at" sPwA f1 fd1 ["terms", "place"]) (G_power_at : FnOk P w K mg base CX0 1 f1 fd1 ["terms", "place"] spPwA) : ∀ n, FnOk P w K mg base CX0 (n + 1) f fd ["terms", "ladders"] (spWor n) := by
  intro n
  induction n with
  | zero =>
    refine F.ok scWor (fun vs H Q E h => ?_) (fun cdv A outer s H vs Q E hr h => ?_)
    · obtain ⟨v, l, ts, xm, les, b, c, rfl, _⟩ := h
      rfl
    obtain ⟨v, l, ts, xm, les, b, c, rfl, hn, _⟩ := h
    exact absurd hn (Nat.not_lt_zero _)
  | succ n G_worth =>
    refine F.ok scWor (fun vs H Q E h => ?_) (fun cdv A outer s H vs Q E hr h => ?_)
    · obtain ⟨v, l, ts, xm, les, b, c, rfl, _⟩ := h
      rfl
    obtain ⟨_, l, ts, xm, les, b, c, rfl, hn, h3, ⟨a, es, rfl, ha, hes⟩, hl, hles, hts, hb, hc, hx, ht, q⟩ := h
    refine ⟨_, (pss_cons (ps_if (pt_not (pt_truth (pv 1) (by intro _; rfl))) (pss_one (ps_ret (pe_callB (cr_sum rfl) (by rfl) T.b_sum (by decide +kernel) (pa_cons (pe_lc (own := [("_", 2), ("share", 3)]) (g := (gTup K 2 (gCons (gName 2) (gCons (gName 3) gNil)))) (by rfl) scWor.nd (pi_seq (pv 0)) (blkOk_by (own := [("_", 2), ("share", 3)]) (N := ["terms", "ladders", "_", "share", "inner", "powers", "total", "ahead", "power"]) (sc := defScope sWor) (by decide +kernel)) (fun _ _ _ _ _ => (pg_tup (by rfl) (pgs_cons (pg_name (i := 2) scWor.nd rfl (.inl rfl)) (pgs_cons (pg_name (i := 3) scWor.nd rfl (.inl rfl)) pgs_nil)))) (fun _ _ _ _ _ => pts_nil) (fun _ _ _ _ _ => (pv 3))) pa_nil)))) pss_nil)
      (pss_cons (ps_set (i := 4) scWor.nd rfl (.inl rfl) pe_dnewK)
      (pss_cons (ps_for PassesOwn.never rfl (pi_seq (pv 0)) (pg_tup (by rfl) (pgs_cons (pg_name (i := 5) scWor.nd rfl (.inl rfl)) (pgs_cons (pg_name (i := 3) scWor.nd rfl (.inl rfl)) pgs_nil)))
        (pss_one (ps_expr (pe_bm PySem.F.plainAttrs_list PySem.F.slot_list_append PySem.F.type_list_append mt_append (pe_dsetd (pv 4) (pe_ix ix_tup (pv 5) pe_int (fun _ _ => rfl)) (pe_lst pa_nil) ⟨rfl, rfl, rfl, rfl⟩) (pa_cons (pe_tup (pa_cons (pe_slice sl_tupA (pv 5) (po_some pe_int) po_none) (pa_cons (pv 3) pa_nil))) pa_nil)))))
      (pss_cons (ps_set (i := 6) scWor.nd rfl (.inl rfl) pe_int)
      (pss_cons (ps_set (i := 7) scWor.nd rfl (.inl rfl) (pe_cd D_power_at G_power_at hr (by omega) (pa_cons (pv 0) (pa_cons pe_int pa_nil))))
      (pss_cons (ps_for PassesOwn.never rfl (pi_list (pe_callBK (cr_sortedDRev (b := true) rfl) (by rfl) T.b_sorted (by decide +kernel) (pa_cons (pv 4) pa_nil) (pk_cons pe_bl pk_nil))) (pg_name (i := 8) scWor.nd rfl (.inl rfl))
        (pss_cons (ps_set (i := 6) scWor.nd rfl (.inl rfl) (pe_op op_add (pe_op op_mulW (pv 6) (pe_ix ix_list (pe_ix ix_list (pv 1) pe_int (fun _ _ => rfl)) (pe_op op_sub (pv 7) (pv 8)) (fun _ _ => rfl))) (pe_cd D_worth G_worth hr (by omega) (pa_cons (pe_dget (hu_of hr) (pv 4) (pv 8) (fun _ _ => rfl)) (pa_cons (pe_slice sl_list (pv 1) (po_some pe_int) po_none) pa_nil)))))
        (pss_one (ps_set (i := 7) scWor.nd rfl (.inl rfl) (pv 8)))))
      (pss_one (ps_ret (pe_op op_mulW (pv 6) (pe_ix ix_list (pe_ix ix_list (pv 1) pe_int (fun _ _ => rfl)) (pv 7) (fun _ _ => rfl))))))))))), ?_⟩
    cases hles with
    | nil =>
      have les0 := TG.paired_len hes
      refine ⟨_, rfl, false, .inl ⟨[], SqL.of hl, rfl⟩, iteT ⟨_, rfl, a, es, rfl, SqX.of ha, fun J Gd wk stay D hD => ?_⟩⟩
      refine walk_in wk (fun i G => Same H G ∧ G D = some (.lst (((ts.map fun t => t.2).take i).map V.int))) ?_ ?_ ?_ ?_
      · exact ⟨new_same hD, upd_same⟩
      · rintro i G _ ⟨sG, _⟩
        exact stay G fun o ho => sG _ _ ho
      · rintro i x G _ hi ⟨sG, hds⟩ ⟨rfl, hx⟩
        obtain ⟨t, htt, ⟨b1, u, rfl, hb1, hu⟩⟩ := TG.paired_get hes hx
        refine ⟨b1, _, rfl, SqT.of (sG _ _ hb1), rfl, _, _, rfl, _, _, rfl, rfl, rfl, _, rfl, _, hds, small1000 (by rw [List.length_map, List.length_take, List.length_map]; omega), same_put sG hD, ?_⟩
        rw [upd_same, take_snoc (x := t.2) (by rw [List.getElem?_map, htt]; rfl), List.map_append]
        rfl
      · rintro G ⟨sG, hds⟩
        rw [List.take_of_length_le (by rw [List.length_map, les0]; exact Nat.le_refl _)] at hds
        refine ⟨_, _, rfl, SqL.of hds, ?_⟩
        have e : (ts.map fun t => t.2).sum = wvT (([] : List (Int × Nat)).map (·.1)) ts := by
          show _ = (ts.map fun t => t.2 * prodP [] t.1).sum
          congr 1
          refine List.map_congr_left fun t _ => ?_
          show _ = t.2 * 1
          rw [Int.mul_one]
        rw [e]
        exact q G sG
    | @cons e0 q0 les' xm' h1 hr1 =>
      obtain ⟨lb, rfl, hlb⟩ := h1
      have les0 := TG.paired_len hes
      have hx0 := hx q0 List.mem_cons_self
      have head : ∀ t ∈ ts, (0 ≤ t.1.headD 0 ∧ t.1.headD 0 ≤ (q0.2 : Int)) ∧ TmOk b xm' (t.1.tail, t.2) ∧ t.1 ≠ [] := fun t htm => by
        obtain ⟨t1, t2, t3⟩ := ht t htm
        cases et : t.1 with
        | nil => rw [et] at t1; cases t1
        | cons p ps =>
          rw [et] at t1
          cases t1 with
          | cons r1 r2 => exact ⟨r1, ⟨r2, t2, t3⟩, List.cons_ne_nil _ _⟩
      let Pk : Int → Prop := fun p => ∃ t ∈ ts, t.1.headD 0 = p
      refine ⟨_, rfl, true, .inl ⟨_, SqL.of hl, rfl⟩, iteF ?_⟩
      refine fun D hD => ?_
      have x1 := new_same (o := .dK []) hD
      have d1 : (L2.upd H D (.dK [])) D = some (.dK []) := upd_same
      generalize L2.upd H D (.dK []) = H1 at x1 d1 ⊢
      refine ⟨_, rfl, a, es, rfl, SqX.of (ha.imp (x1 _ _) (x1 _ _)), fun J Gd wk stay => ?_⟩
      refine for_it wk (fun i σ G => (∃ v2 v3 v5 v6 v7 v8, σ = [some (.ref a), some (.ref l), v2, v3, some (.ref D), v5, v6, v7, v8]) ∧ ∃ gs, gs.length ≤ i ∧ GrpAt H G D Pk gs (ts.take i)) ?_ ?_ ?_ ?_
      · exact ⟨⟨_, _, _, _, _, _, rfl⟩, [], Nat.le_refl _, ⟨d1, .nil, .nil, fun g hg => absurd hg List.not_mem_nil, fun t ht => absurd ht List.not_mem_nil, x1⟩⟩
      · rintro i σ G _ ⟨_, gs, _, hg⟩
        exact stay G fun o ho => by
          rcases ha with ha | ha
          · cases Option.some.inj ((x1 _ _ ha).symm.trans ho)
            exact hg.s _ _ ha
          · cases Option.some.inj ((x1 _ _ ha).symm.trans ho)
            exact hg.s _ _ ha
      · rintro i x σ G _ hi ⟨⟨v2, v3, v5, v6, v7, v8, rfl⟩, gs, lgs, hg⟩ ⟨rfl, hxi⟩
        rename_i G
        obtain ⟨t, hti, ⟨b1, u, rfl, hb1, hu⟩⟩ := TG.paired_get hes hxi
        have tm := List.mem_of_getElem? hti
        obtain ⟨⟨p0, p1⟩, tok, tne⟩ := head t tm
        refine ⟨b1, _, rfl, SqT.of (hg.s _ _ hb1), rfl, _, _, rfl, _, _, rfl, rfl, ?_⟩
        have g0 : (t.1.map V.int)[0]? = some (.int (t.1.headD 0)) := by
          cases et : t.1 with
          | nil => exact absurd et tne
          | cons p ps => rfl
        refine ⟨_, rfl, D, rfl, .inl ⟨_, .inl hg.d⟩, _, rfl, u, _, (0 : Nat), .int (t.1.headD 0), rfl, rfl, SqT.of (hg.s _ _ hu), atI_nat g0, (by show 0 ≤ sizeLine; decide), fun L hL => ?_⟩
        have x2 := new_same (o := .lst []) hL
        have hg2 := hg.same x2
        have l2 : (L2.upd G L (.lst [])) L = some (.lst []) := upd_same
        have hLn : H L = none := hg.s.free hL
        have ng : ∀ g ∈ gs, g.2 ≠ L := fun g hgm z => by
          obtain ⟨_, _, es2, h2, _⟩ := hg.l g hgm
          rw [z, hL] at h2
          cases h2
        generalize L2.upd G L (.lst []) = G1 at x2 hg2 l2 ⊢
        refine ⟨kvG gs, Sum.inl (t.1.headD 0), hg2.d, rfl, small1000 (by rw [List.length_map]; omega), fun v hv => ?_, fun hv => ?_⟩
        focus
          obtain ⟨g, hgm, e1, rfl⟩ := kvG_some hv
          have pack : ∃ gs', g ∈ gs' ∧ t.1.headD 0 = g.1 ∧ gs'.length ≤ i + 1 ∧ GrpAt H G1 D Pk gs' (ts.take i) := ⟨gs, hgm, e1.symm, by omega, hg2⟩
          clear hgm e1 hv hg2 x2 l2
          generalize G1 = G9 at pack ⊢
        rotate_left
        focus
          have np := kvG_none hv
          have pack : ∃ gs', ((t.1.headD 0, L) : Int × Addr) ∈ gs' ∧ t.1.headD 0 = ((t.1.headD 0, L) : Int × Addr).1 ∧ gs'.length ≤ i + 1 ∧ GrpAt H (L2.upd G1 D (.dK (putK (kvG gs) (Sum.inl (t.1.headD 0)) (.ref L)))) D Pk gs' (ts.take i) := by
            refine ⟨gs ++ [(t.1.headD 0, L)], List.mem_append_right _ List.mem_cons_self, rfl, by rw [List.length_append]; show gs.length + 1 ≤ _; omega, ?_⟩
            rw [putK_new _ hv]
            have z := hg2.new l2 hLn hD ng np ⟨t, tm, rfl⟩
            rw [show kvG (gs ++ [(t.1.headD 0, L)]) = kvG gs ++ [((Sum.inl (t.1.headD 0) : Key), V.ref L)] from List.map_append] at z
            exact z
          have hu2 : (L2.upd G1 D (.dK (putK (kvG gs) (Sum.inl (t.1.headD 0)) (.ref L)))) u = some (.tup (t.1.map V.int)) := by
            obtain ⟨_, _, _, _, hg9⟩ := pack
            exact hg9.s _ _ hu
          generalize (L2.upd G1 D (.dK (putK (kvG gs) (Sum.inl (t.1.headD 0)) (.ref L)))) = G9 at pack hu2 ⊢
          clear hg2 x2 l2 np hv
          show _ ∧ _
          rw [show V.ref L = V.ref ((t.1.headD 0, L) : Int × Addr).2 from rfl]
          generalize ((t.1.headD 0, L) : Int × Addr) = g at pack ⊢
        all_goals
          obtain ⟨gs', hgm, e1, lg, hg3⟩ := pack
          obtain ⟨gn, _, es2, hes2, hpe⟩ := hg3.l g hgm
          have l2 : es2.length ≤ 500 := by
            have := TG.paired_len hpe
            have := grp_len (ts.take i) g.1
            rw [List.length_take] at this
            omega
          refine ⟨.inl ⟨rfl, _, SqL.of hes2⟩, _, rfl, ((1 : Nat) : Int), rfl, u, _, rfl, SqT.of (hg3.s _ _ hu), fun hw => ?_, fun _ q1 hq1 => ?_⟩
          · rw [List.length_map, show ((1 : Nat) : Int) = ((1 : Nat) : Int) from rfl, HT.sIx_nat] at hw
            have := List.length_pos_iff.mpr tne
            omega
          · have tl : cutV (t.1.map V.int) (some ((1 : Nat) : Int)) none = t.1.tail.map V.int := by
              rw [cut_from _ 1 (by rw [List.length_map]; exact List.length_pos_iff.mpr tne)]
              cases t.1 with
              | nil => rfl
              | cons p ps => rfl
            rw [tl]
            have y1 := new_same (o := .tup (t.1.tail.map V.int)) hq1
            have f1 : (L2.upd G9 q1 (.tup (t.1.tail.map V.int))) q1 = some (.tup (t.1.tail.map V.int)) := upd_same
            generalize (L2.upd G9 q1 (.tup (t.1.tail.map V.int))) = G5 at y1 f1 ⊢
            refine ⟨_, rfl, (by show 2 ≤ sizeLine; decide), fun q2 hq2 => ?_⟩
            have y2 := new_same (o := .tup [.ref q1, .int t.2]) hq2
            have te : TermH (L2.upd G5 q2 (.tup [.ref q1, .int t.2])) (.ref q2) (t.1.tail, t.2) := ⟨q2, q1, rfl, upd_same, y2 _ _ f1⟩
            have hg6 := hg3.same (y1.trans y2)
            have hes6 := (y1.trans y2) _ _ hes2
            refine ⟨g.2, es2, .ref q2, rfl, rfl, hes6, small1000 (by omega), ?_⟩
            have hg7 := hg6.push hgm e1 hes6 te
            rw [← take_snoc hti] at hg7
            exact ⟨⟨_, _, _, _, _, _, rfl⟩, gs', lg, hg7⟩
      · rintro σ G ⟨⟨v2, v3, v5, v6, v7, v8, rfl⟩, gs, lgs, hg⟩
        rw [les0, List.take_of_length_le (Nat.le_refl _)] at hg
        have hl1 := hg.s _ _ hl
        have hx' : ∀ q ∈ xm', XmOk c q := fun q hq => hx q (List.mem_cons_of_mem _ hq)
        have key : ∀ p, p ∈ gs.map (·.1) → 0 ≤ p ∧ p ≤ (q0.2 : Int) := fun p hp => by
          obtain ⟨g, hgm, rfl⟩ := List.mem_map.mp hp
          obtain ⟨_, ⟨t, h1, h2⟩, _⟩ := hg.l g hgm
          have := (head t h1).1
          rw [h2] at this
          exact this
        refine ⟨_, rfl, .ref a, 0, ts, rfl, ⟨a, es, rfl, ha.imp (hg.s _ _) (hg.s _ _), paired_imp (fun _ _ h => h.same hg.s) hes⟩, by omega, (fun t htm => List.length_pos_iff.mpr (head t htm).2.2), fun m0 G1 s1 hm => ?_⟩
        have top : (∀ p ∈ gs.map (·.1), p ≤ m0) ∧ 0 ≤ m0 ∧ m0 ≤ (q0.2 : Int) := by
          have hd0 : ∀ t : List Int × Int, t.1.getD 0 0 = t.1.headD 0 := fun t => by cases t.1 <;> rfl
          rcases hm with ⟨h1, rfl⟩ | ⟨h1, h2⟩
          · have : ts = [] := List.map_eq_nil_iff.mp h1
            subst this
            refine ⟨fun p hp => ?_, Int.le_refl _, Int.natCast_nonneg _⟩
            obtain ⟨g, hgm, rfl⟩ := List.mem_map.mp hp
            obtain ⟨_, ⟨t, h1, h2⟩, _⟩ := hg.l g hgm
            exact absurd h1 List.not_mem_nil
          · obtain ⟨t0, ht0, rfl⟩ := List.mem_map.mp h1
            refine ⟨fun p hp => ?_, by rw [hd0]; exact (head t0 ht0).1.1, by rw [hd0]; exact (head t0 ht0).1.2⟩
            obtain ⟨g, hgm, rfl⟩ := List.mem_map.mp hp
            obtain ⟨_, ⟨t, h3, h4⟩, _⟩ := hg.l g hgm
            have := h2 _ (List.mem_map.mpr ⟨t, h3, rfl⟩)
            rw [hd0, h4] at this
            exact this
        have hg1 := hg.same s1
        have hl1 := hg1.s _ _ hl
        have hlb1 := hg1.s _ _ hlb
        refine ⟨_, rfl, D, kvG gs, gs.map (·.1), rfl, rfl, .inl hg1.d, by rw [List.map_map, List.map_map]; rfl, fun ns S perm ord hS => ?_⟩
        have x3 := new_same (o := .lst (ns.map V.int)) hS
        have hS2 : (L2.upd G1 S (.lst (ns.map V.int))) S = some (.lst (ns.map V.int)) := upd_same
        have hg2 := hg1.same x3
        have hl2 := x3 _ _ hl1
        have hlb2 := x3 _ _ hlb1
        have ord : ns.Pairwise (· ≥ ·) := ord
        have key : ∀ p ∈ ns, p ≤ m0 ∧ 0 ≤ p ∧ p ≤ (q0.2 : Int) := fun p hp => ⟨top.1 p (perm.mem_iff.mp hp), key p (perm.mem_iff.mp hp)⟩
        have lns : ns.length ≤ 500 := by
          have := perm.length_eq
          rw [List.length_map] at this
          omega
        generalize L2.upd G1 S (.lst (ns.map V.int)) = G2 at x3 hS2 hg2 hl2 hlb2 ⊢
        have wb : ∀ p, 0 ≤ wvT (xm'.map (·.1)) (grp ts p) ∧ wvT (xm'.map (·.1)) (grp ts p) ≤ ((500 : Nat) : Int) * 2 ^ (b + c * xm'.length) := fun p => by
          have z := wv_bd (b := b) (T := grp ts p) hx' fun t htm => by
            obtain ⟨t', h1, _, rfl⟩ := mem_grp htm
            exact (head t' h1).2.1
          refine ⟨z.1, Int.le_trans z.2 (Int.mul_le_mul_of_nonneg_right ?_ (Int.le_of_lt (pow2_nn _)))⟩
          have := grp_len ts p
          omega
        have l3 : xm'.length ≤ 2 := by
          have : xm'.length + 1 ≤ 3 := h3
          omega
        have k3 : b + c * xm'.length ≤ 120000 := by
          have : c * xm'.length ≤ 10000 * 2 := Nat.mul_le_mul hc l3
          omega
        have mulOk : ∀ (j : Nat) (cu : Int) (i : Nat), 0 ≤ cu → i ≤ q0.2 → (∀ r ∈ ns.take j, cu ≤ r) → CMulW (horn q0.1 (fun p => wvT (xm'.map (·.1)) (grp ts p)) (ns.take j) cu) (q0.1 ^ i) := fun j cu i h0 h1 h2 => by
          obtain ⟨a0, a1⟩ := horn_bd (x := q0.1) (w := fun p => wvT (xm'.map (·.1)) (grp ts p)) (ds := ns.take j) (c := c) (k := b + c * xm'.length) (m := q0.2) (L := 500) hx0 h0 fun p hp => ⟨h2 p hp, (key p (List.mem_of_mem_take hp)).2.2, (wb p).1, (wb p).2⟩
          have a2 := abs_bd a0 a1 (by
            have : (ns.take j).length ≤ 500 := by rw [List.length_take]; omega
            have : (ns.take j).length * 500 ≤ 500 * 500 := Nat.mul_le_mul_right 500 this
            omega)
          have b0 : 0 ≤ q0.1 ^ i := Int.pow_nonneg hx0.1
          have b2 := abs_bd (a := 1) (k := c) b0 (by rw [Int.natCast_one, Int.one_mul]; exact hx0.2 i h1) (by decide)
          exact wide_mul a2 b2 (by omega) (by omega) (by omega)
        have ent : ∀ i : Nat, i ≤ q0.2 → atI ((List.range (q0.2 + 1)).map fun i => V.int (q0.1 ^ i)) ((i : Nat) : Int) = some (V.int (q0.1 ^ i)) := fun i h => atI_nat (by
          rw [List.getElem?_map, List.getElem?_range (by omega)]
          rfl)
        refine ⟨S, rfl, ⟨_, SqL.of hS2⟩, ?_⟩
        refine for_list (K := K) (a := S) (xs := ns.map V.int) (fun j σ G => ∃ (cu : Int) (w2 w3 w5 w8 : Option V), σ = [some (.ref a), some (.ref l), w2, w3, some (.ref D), w5, some (.int (horn q0.1 (fun p => wvT (xm'.map (·.1)) (grp ts p)) (ns.take j) cu)), some (.int cu), w8] ∧ Same G2 G ∧ 0 ≤ cu ∧ cu ≤ (q0.2 : Int) ∧ (∀ r ∈ ns.take j, cu ≤ r) ∧ ∀ r ∈ ns.drop j, r ≤ cu) ?_ ?_ ?_ ?_
        · exact ⟨m0, v2, v3, v5, v8, rfl, fun _ _ h => h, top.2.1, top.2.2, (fun r hr => absurd hr List.not_mem_nil), fun r hr => (key r hr).1⟩
        · rintro j σ G _ ⟨_, _, _, _, _, _, s3, _⟩
          exact SqL.of (s3 _ _ hS2)
        · rintro j x σ G hxj ⟨cu, w2, w3, w5, w8, rfl, s3, c0, c1, c2, c3⟩
          rw [List.getElem?_map] at hxj
          obtain ⟨p, hp, rfl⟩ := Option.map_eq_some_iff.mp hxj
          have jl := lt_get hp
          have pin : p ∈ ns := List.mem_of_getElem? hp
          have ed : ns.drop j = p :: ns.drop (j + 1) := by
            rw [List.drop_eq_getElem_cons jl]
            rw [List.getElem?_eq_getElem jl] at hp
            rw [Option.some.inj hp]
          have pc : p ≤ cu := c3 p (by rw [ed]; exact List.mem_cons_self)
          have ed2 := ord
          rw [← List.take_append_drop j ns, ed] at ed2
          obtain ⟨_, o2, o3⟩ := List.pairwise_append.mp ed2
          obtain ⟨p0, p1⟩ := (key p pin).2
          have ek : cu - p = (((cu - p).toNat : Nat) : Int) := by omega
          have kl : (cu - p).toNat ≤ q0.2 := by omega
          have hg3 := hg2.same s3
          obtain ⟨g, hgm, eg⟩ := List.mem_map.mp (perm.mem_iff.mp pin)
          obtain ⟨_, _, es3, hes3, pes3⟩ := hg3.l g hgm
          rw [eg] at pes3
          have hl3 := s3 _ _ hl2
          have get : DGet G D (.int p) (some (.ref g.2)) := by
            have z := DGet.k (k := (Sum.inl p : Key)) hg3.d
            rw [← eg, kvG_get hg3.n1 hgm] at z
            rw [← eg]
            exact z
          refine ⟨_, rfl, _, rfl, l, _, ((0 : Nat) : Int), .ref lb, rfl, rfl, SqL.of hl3, atI_nat rfl, _, rfl, _, rfl, _, _, rfl, rfl, lb, _, cu - p, .int (q0.1 ^ (cu - p).toNat), rfl, rfl, SqL.of (s3 _ _ hlb2), ?_, _, _, rfl, rfl, mulOk j cu _ c0 kl c2, ?_⟩
          · have z := ent (cu - p).toNat kl
            rw [← ek] at z
            exact z
          refine ⟨_, rfl, _, rfl, D, .ref g.2, rfl, get, _, rfl, ((1 : Nat) : Int), rfl, l, _, rfl, SqL.of hl3, fun S2 hS3 => ?_⟩
          rw [cut_from _ 1 (by show 1 ≤ les'.length + 1; omega)]
          have x4 := new_same (o := .lst les') hS3
          refine ⟨_, S2, grp ts p, xm', les', b, c, rfl, by have : xm'.length + 1 < n + 1 := hn; omega, by omega, (TermsV.same ⟨g.2, es3, rfl, .inl hes3, pes3⟩ x4), upd_same, paired_imp (fun _ _ h => LadAt.same h ((hg3.s).trans x4)) hr1, Nat.le_trans (grp_len ts p) hts, hb, hc, hx', fun t htm => ?_, fun G5 s5 => ?_⟩
          · obtain ⟨t', h1, _, rfl⟩ := mem_grp htm
            exact (head t' h1).2.1
          · refine ⟨_, _, rfl, rfl, _, rfl, p, w2, w3, w5, some (.int p), ?_, (s3.trans x4).trans s5, p0, p1, fun r hr => ?_, fun r hr => ?_⟩
            · rw [take_snoc hp, ← horn_snoc, ← horn_down c2 pc]
              rfl
            · rw [take_snoc hp] at hr
              rcases List.mem_append.mp hr with hr | hr
              · exact o3 r hr p List.mem_cons_self
              · exact Int.le_of_eq (List.mem_singleton.mp hr).symm
            · exact (List.pairwise_cons.mp o2).1 r hr
        · rintro σ G ⟨cu, w2, w3, w5, w8, rfl, s3, c0, c1, c2, _⟩
          rw [List.length_map] at c2 ⊢
          have hl3 := s3 _ _ hl2
          have cl : cu.toNat ≤ q0.2 := by omega
          refine ⟨_, rfl, _, rfl, l, _, ((0 : Nat) : Int), .ref lb, rfl, rfl, SqL.of hl3, atI_nat rfl, _, rfl, lb, _, cu, .int (q0.1 ^ cu.toNat), rfl, rfl, SqL.of (s3 _ _ hlb2), ?_, _, _, rfl, rfl, mulOk ns.length cu _ c0 cl c2, ?_⟩
          · have z := ent cu.toNat cl
            rw [show ((cu.toNat : Nat) : Int) = cu from by omega] at z
            exact z
          · have z := horn_down (x := q0.1) (w := fun p => wvT (xm'.map (·.1)) (grp ts p)) c2 c0
            rw [List.take_length] at z ⊢
            rw [Int.sub_zero] at z
            show Q (.int (horn q0.1 (fun p => wvT (xm'.map (·.1)) (grp ts p)) ns cu * q0.1 ^ cu.toNat)) G
            rw [z, horn_zero fun p hp => (key p hp).2.1, wv_group ((perm.nodup_iff).mpr hg.n1) fun t htm => ⟨perm.mem_iff.mpr (hg.t t htm), (head t htm).2.2⟩]
            exact q G (hg2.s.trans s3)
theorem ok_wra (F : Fun K "worth_at" "worth_at" sWrA f fd) (T : Bn mg) (D_ladder : Df K mg "ladder" sLad f1 fd1 ["number", "most"]) (G_ladder : FnOk P w K mg base CX0 1 f1 fd1 ["number", "most"] spLad) (D_power_at : Df K mg "power_at" sPwA f2 fd2 ["terms", "place"]) (G_power_at : FnOk P w K mg base CX0 1 f2 fd2 ["terms", "place"] spPwA)
    (D_worth : Df K mg "worth" sWor f3 fd3 ["terms", "ladders"]) (G_worth : FnOk P w K mg base CX0 5 f3 fd3 ["terms", "ladders"] (spWor 4)) : FnOk P w K mg base CX0 6 f fd ["terms", "numbers"] spWrA := by
  refine F.ok scWrA (fun vs H Q E h => ?_) (fun cdv A outer s H vs Q E hr h => ?_)
  · obtain ⟨v, u, ts, xs, e, k, b, rfl, _⟩ := h
    rfl
  obtain ⟨v, _, ts, xs, e, k, b, rfl, hv, ⟨a, rfl, ha⟩, x3, hts, hb, hek, hk, hx, ht, q⟩ := h
  refine ⟨_, (pss_cons (ps_set (i := 2) scWrA.nd rfl (.inl rfl) (pe_lst pa_nil))
      (pss_cons (ps_for PassesOwn.never rfl (pi_enumX (by rfl) T.b_enumerate (pa_cons (pv 1) pa_nil)) (pg_tup (by rfl) (pgs_cons (pg_name (i := 3) scWrA.nd rfl (.inl rfl)) (pgs_cons (pg_name (i := 4) scWrA.nd rfl (.inl rfl)) pgs_nil)))
        (pss_one (ps_expr (pe_bm PySem.F.plainAttrs_list PySem.F.slot_list_append PySem.F.type_list_append mt_append (pv 2) (pa_cons (pe_cd D_ladder G_ladder hr (by decide) (pa_cons (pv 4) (pa_cons (pe_cd D_power_at G_power_at hr (by decide) (pa_cons (pv 0) (pa_cons (pv 3) pa_nil))) pa_nil))) pa_nil)))))
      (pss_one (ps_ret (pe_cd D_worth G_worth hr (by decide) (pa_cons (pv 0) (pa_cons (pv 2) pa_nil))))))), ?_⟩
  refine ⟨(by show 0 ≤ sizeLine; decide), fun L hL => ?_⟩
  have x1 := new_same (o := .lst []) hL
  have l1 : (L2.upd H L (.lst [])) L = some (.lst []) := upd_same
  generalize L2.upd H L (.lst []) = H1 at x1 l1 ⊢
  refine ⟨_, rfl, a, _, rfl, SqX.of (ha.imp (x1 _ _) (x1 _ _)), fun J Gd wk stay => ?_⟩
  refine for_it wk (fun i σ G => (∃ w3 w4, σ = [some v, some (.ref a), some (.ref L), w3, w4]) ∧ Same H G ∧ ∃ les ms, G L = some (.lst les) ∧ les.length = i ∧ Paired (fun w q => LadAt G w q ∧ w ≠ .ref L) les ((xs.take i).zip ms) ∧ ms.length = i ∧ ∀ j m, ms[j]? = some m → m ≤ k ∧ ∀ t ∈ ts, t.1.getD j 0 ≤ ((m : Nat) : Int)) ?_ ?_ ?_ ?_
  · exact ⟨⟨_, _, rfl⟩, x1, [], [], l1, rfl, .nil, rfl, fun j m h => by cases h⟩
  · rintro i σ G _ ⟨_, sG, _⟩
    exact stay G fun o ho => by
      rcases ha with ha | ha
      · cases Option.some.inj ((x1 _ _ ha).symm.trans ho)
        exact sG _ _ ha
      · cases Option.some.inj ((x1 _ _ ha).symm.trans ho)
        exact sG _ _ ha
  · rintro i x σ G G2 hi ⟨⟨w3, w4, rfl⟩, sG, les, ms, hles, ll, pl, lm, hms⟩ hY
    obtain ⟨t0, x0, y9, rfl, ht0, rfl, e1, e2⟩ := hY
    have e1 : some (V.int (i : Nat)) = some x0 := e1
    cases e1
    have e2 : (xs.map V.int)[i]? = some y9 := e2
    rw [List.getElem?_map] at e2
    obtain ⟨y0, hz, rfl⟩ := Option.map_eq_some_iff.mp e2
    have hi2 := lt_get hz
    have hzm := hx y0 (List.mem_of_getElem? hz)
    have x2 := new_same (o := .tup [.int (i : Nat), .int y0]) ht0
    refine ⟨t0, _, rfl, SqT.of upd_same, rfl, _, _, rfl, _, _, rfl, rfl, ?_⟩
    generalize L2.upd G t0 (.tup [.int (i : Nat), .int y0]) = G1 at x2 ⊢
    have s1 := sG.trans x2
    refine ⟨_, rfl, .inl ⟨rfl, _, SqL.of (x2 _ _ hles)⟩, _, rfl, _, rfl, _, rfl, v, i, ts, rfl, hv.same s1, by omega, (fun t htm => by rw [(ht t htm).1]; exact hi2), fun m G2 s2 hm => ?_⟩
    have mk : 0 ≤ m ∧ m ≤ (k : Int) ∧ ∀ t ∈ ts, t.1.getD i 0 ≤ m := by
      rcases hm with ⟨h1, rfl⟩ | ⟨h1, h2⟩
      · have : ts = [] := List.map_eq_nil_iff.mp h1
        subst this
        exact ⟨Int.le_refl _, Int.natCast_nonneg _, fun t htm => absurd htm List.not_mem_nil⟩
      · obtain ⟨t, htm, rfl⟩ := List.mem_map.mp h1
        obtain ⟨t1, t2, _⟩ := ht t htm
        have il : i < t.1.length := by rw [t1]; exact hi2
        have hm : t.1.getD i 0 ∈ t.1 := by
          rw [List.getD_eq_getElem?_getD, List.getElem?_eq_getElem il]
          exact List.getElem_mem il
        exact ⟨(t2 _ hm).1, (t2 _ hm).2, fun t' ht' => h2 _ (List.mem_map.mpr ⟨t', ht', rfl⟩)⟩
    obtain ⟨m0, m1, m2⟩ := mk
    obtain ⟨M, rfl⟩ := Int.eq_ofNat_of_zero_le m0
    have Mk : M ≤ k := by omega
    have eM : e * M ≤ e * k := Nat.mul_le_mul_left e Mk
    refine ⟨y0, M, e, rfl, hzm.1, hzm.2, by omega, hk.1, by omega, fun r G3 s3 hr3 => ?_⟩
    have s13 := (x2.trans s2).trans s3
    have hles3 := s13 _ _ hles
    refine ⟨L, les, .ref r, rfl, rfl, hles3, small1000 (by omega), ⟨⟨_, _, rfl⟩, same_put (sG.trans s13) hL, les ++ [.ref r], ms ++ [M], upd_same, by rw [List.length_append, ll]; rfl, ?_, by rw [List.length_append, lm]; rfl, fun j m hj => ?_⟩⟩
    · rw [take_snoc hz, List.zip_append (by rw [List.length_take, lm]; omega)]
      have up : ∀ {w : V} {q : Int × Nat}, LadAt G w q ∧ w ≠ .ref L → LadAt (L2.upd G3 L (.lst (les ++ [.ref r]))) w q ∧ w ≠ .ref L := fun {w q} h => by
        obtain ⟨⟨b1, rfl, h1⟩, h2⟩ := h
        have nb : b1 ≠ L := fun z => h2 (by rw [z])
        exact ⟨⟨b1, rfl, (upd_ne nb).trans (s13 _ _ h1)⟩, h2⟩
      have rL : r ≠ L := fun z => by
        rw [z, hles3] at hr3
        injection hr3 with hr3
        injection hr3 with hr3
        have g0 : les[0]? = some (V.int ((fun j => y0 ^ j) 0)) := by
          rw [hr3, List.getElem?_map, List.getElem?_range (Nat.succ_pos M)]
          rfl
        obtain ⟨_, _, ⟨_, e9, _⟩, _⟩ := TG.paired_get pl g0
        cases e9
      exact paired_snoc ⟨⟨r, rfl, (upd_ne rL).trans hr3⟩, fun z => rL (by injection z)⟩ (paired_imp (fun _ _ h => up h) pl)
    · by_cases ej : j < ms.length
      · rw [List.getElem?_append_left ej] at hj
        exact hms j m hj
      · rw [List.getElem?_append_right (by omega)] at hj
        have e0 : j - ms.length = 0 := by
          have := lt_get hj
          have z : ([M] : List Nat).length = 1 := rfl
          omega
        rw [e0] at hj
        cases hj
        obtain rfl : j = i := by omega
        exact ⟨Mk, m2⟩
  · rintro σ G ⟨⟨w3, w4, rfl⟩, sG, les, ms, hles, ll, pl, lm, hms⟩
    rw [List.length_map] at ll pl lm
    rw [List.take_length] at pl
    refine ⟨_, rfl, _, rfl, v, L, ts, xs.zip ms, les, b, e * k, rfl, by rw [List.length_zip]; omega, by rw [List.length_zip]; omega, hv.same sG, hles, paired_imp (fun _ _ h => h.1) pl, hts, hb, hek, fun y hy => ?_, fun t htm => ?_, fun G2 s2 => ?_⟩
    · obtain ⟨j, hj⟩ := List.mem_iff_getElem?.mp hy
      obtain ⟨h1, h2⟩ := List.getElem?_zip_eq_some.mp hj
      obtain ⟨z0, z1⟩ := hx _ (List.mem_of_getElem? h1)
      exact ⟨z0, fun i hi => pow_bd z0 z1 (Nat.le_trans hi (hms j _ h2).1)⟩
    · obtain ⟨t1, t2, t3, t4⟩ := ht t htm
      refine ⟨paired_by (by rw [List.length_zip, t1]; omega) fun j p y hp hj => ?_, t3, t4⟩
      obtain ⟨h1, h2⟩ := List.getElem?_zip_eq_some.mp hj
      have z := (hms j _ h2).2 t htm
      rw [List.getD_eq_getElem?_getD, hp] at z
      exact ⟨(t2 p (List.mem_of_getElem? hp)).1, z⟩
    · rw [List.map_fst_zip (by omega)]
      exact q G2 (sG.trans s2)
end
end TF52
set_option maxHeartbeats 400000
/-! rows of codes: parts, depths, steps -/
namespace TG
open PySem PySem.Spec L2
open PyProof.Rows hiding St
namespace Bt
def deps : Bt → Nat → List Nat
  | bd _, d => [d]
  | fr _, d => [d]
  | of b, d => d :: b.deps (d + 1)
  | to a b, d => d :: (a.deps d ++ b.deps d)
theorem cd_len : ∀ b : Bt, b.cd.length = b.sg
  | bd _ => rfl
  | fr _ => rfl
  | of b => congrArg (· + 1) (cd_len b)
  | to a b => by
    show (a.cd ++ b.cd).length + 1 = a.sg + b.sg + 1
    rw [List.length_append, cd_len a, cd_len b]
theorem deps_len : ∀ (b : Bt) (d : Nat), (b.deps d).length = b.sg
  | bd _, _ => rfl
  | fr _, _ => rfl
  | of b, d => congrArg (· + 1) (deps_len b (d + 1))
  | to a b, d => by
    show (a.deps d ++ b.deps d).length + 1 = a.sg + b.sg + 1
    rw [List.length_append, deps_len a d, deps_len b d]
/-- each code with how many "of"s are around it -/
def zc (b : Bt) (d : Nat) : List (Cd × Nat) := b.cd.zip (b.deps d)
theorem zc_len (b : Bt) (d : Nat) : (b.zc d).length = b.sg := by
  unfold zc
  rw [List.length_zip, cd_len, deps_len, Nat.min_self]
theorem zc_of (b : Bt) (d : Nat) : (of b).zc d = (.inl "of", d) :: b.zc (d + 1) := rfl
theorem zc_to (a b : Bt) (d : Nat) : (to a b).zc d = (.inl "to", d) :: (a.zc d ++ b.zc d) := by
  show (Sum.inl ("to" : Str) :: (a.cd ++ b.cd)).zip (d :: (a.deps d ++ b.deps d)) = _
  rw [List.zip_cons_cons, List.zip_append (by rw [cd_len, deps_len])]
  rfl
/-- with so many "of"s more around -/
def lift (by_ : Nat) : Nat → Bt → Bt
  | k, bd n => bd (if k ≤ n then n + by_ else n)
  | _, fr z => fr z
  | k, of b => of (lift by_ (k + 1) b)
  | k, to a b => to (lift by_ k a) (lift by_ k b)
/-- the body of an "of" with what it is handed -/
def hand (t : Bt) : Nat → Bt → Bt
  | k, bd n => if n = k then lift k 0 t else bd (if k < n then n - 1 else n)
  | _, fr z => fr z
  | k, of b => of (hand t (k + 1) b)
  | k, to a b => to (hand t k a) (hand t k b)
def liftC (by_ : Nat) : Cd × Nat → Cd
  | (.inr n, d) => .inr (if d ≤ n then n + by_ else n)
  | (.inl z, _) => .inl z
theorem lift_cd (by_ : Nat) : ∀ (b : Bt) (k : Nat), (lift by_ k b).cd = (b.zc k).map (liftC by_)
  | bd n, k => rfl
  | fr z, k => rfl
  | of b, k => by
    rw [zc_of]
    show Sum.inl ("of" : Str) :: (lift by_ (k + 1) b).cd = _
    rw [lift_cd by_ b (k + 1)]
    rfl
  | to a b, k => by
    rw [zc_to]
    show Sum.inl ("to" : Str) :: ((lift by_ k a).cd ++ (lift by_ k b).cd) = _
    rw [lift_cd by_ a k, lift_cd by_ b k, List.map_cons, List.map_append]
    rfl
def handC (t : Bt) : Cd × Nat → List Cd
  | (.inr n, d) => if n = d then (lift d 0 t).cd else [.inr (if d < n then n - 1 else n)]
  | (.inl z, _) => [.inl z]
theorem hand_cd (t : Bt) : ∀ (b : Bt) (k : Nat), (hand t k b).cd = (b.zc k).flatMap (handC t)
  | bd n, k => by
    show (if n = k then lift k 0 t else bd (if k < n then n - 1 else n)).cd = (if n = k then (lift k 0 t).cd else [.inr (if k < n then n - 1 else n)]) ++ []
    rw [List.append_nil]
    by_cases e : n = k
    · rw [if_pos e, if_pos e]
    · rw [if_neg e, if_neg e]; rfl
  | fr z, k => rfl
  | of b, k => by
    rw [zc_of]
    show Sum.inl ("of" : Str) :: (hand t (k + 1) b).cd = [Sum.inl ("of" : Str)] ++ _
    rw [hand_cd t b (k + 1)]
    rfl
  | to a b, k => by
    rw [zc_to]
    show Sum.inl ("to" : Str) :: ((hand t k a).cd ++ (hand t k b).cd) = [Sum.inl ("to" : Str)] ++ (a.zc k ++ b.zc k).flatMap (handC t)
    rw [hand_cd t a k, hand_cd t b k, List.flatMap_append]
    rfl
/-! ### parts -/
def subs : Bt → List Bt
  | bd n => [bd n]
  | fr z => [fr z]
  | of b => of b :: b.subs
  | to a b => to a b :: (a.subs ++ b.subs)
theorem subs_len : ∀ b : Bt, b.subs.length = b.sg
  | bd _ => rfl
  | fr _ => rfl
  | of b => congrArg (· + 1) (subs_len b)
  | to a b => by
    show (a.subs ++ b.subs).length + 1 = a.sg + b.sg + 1
    rw [List.length_append, subs_len a, subs_len b]
theorem subs_zero : ∀ b : Bt, b.subs[0]? = some b
  | bd _ => rfl
  | fr _ => rfl
  | of _ => rfl
  | to _ _ => rfl
theorem subs_lt {b s : Bt} {i : Nat} (h : b.subs[i]? = some s) : i < b.sg := by
  rw [← subs_len]
  exact (List.getElem?_eq_some_iff.mp h).1
/-- a part's codes stand in a row -/
theorem cd_part : ∀ {b s : Bt} {i : Nat}, b.subs[i]? = some s → b.cd = b.cd.take i ++ s.cd ++ b.cd.drop (i + s.sg) ∧ i + s.sg ≤ b.sg
  | b, s, 0, h => by
    rw [subs_zero] at h
    cases h
    rw [List.take_zero, List.nil_append, Nat.zero_add, List.drop_of_length_le (by rw [cd_len]; exact Nat.le_refl _), List.append_nil]
    exact ⟨rfl, Nat.le_refl _⟩
  | bd _, s, i + 1, h => nomatch h
  | fr _, s, i + 1, h => nomatch h
  | of b, s, i + 1, h => by
    obtain ⟨e, l⟩ := cd_part (b := b) (i := i) h
    refine ⟨?_, by show i + 1 + s.sg ≤ b.sg + 1; omega⟩
    show Sum.inl ("of" : Str) :: b.cd = Sum.inl ("of" : Str) :: b.cd.take i ++ s.cd ++ (of b).cd.drop (i + 1 + s.sg)
    rw [show i + 1 + s.sg = (i + s.sg) + 1 by omega]
    show Sum.inl ("of" : Str) :: b.cd = Sum.inl ("of" : Str) :: (b.cd.take i ++ s.cd ++ b.cd.drop (i + s.sg))
    rw [← e]
  | to a b, s, i + 1, h => by
    have h : (a.subs ++ b.subs)[i]? = some s := h
    have la := cd_len a
    rw [show i + 1 + s.sg = (i + s.sg) + 1 by omega]
    by_cases c : i < a.sg
    · rw [List.getElem?_append_left (by rw [subs_len]; exact c)] at h
      obtain ⟨e, l⟩ := cd_part h
      refine ⟨?_, by show i + s.sg + 1 ≤ a.sg + b.sg + 1; omega⟩
      show Sum.inl ("to" : Str) :: (a.cd ++ b.cd) = Sum.inl ("to" : Str) :: ((a.cd ++ b.cd).take i ++ s.cd ++ (a.cd ++ b.cd).drop (i + s.sg))
      rw [List.take_append_of_le_length (by omega), List.drop_append_of_le_length (by omega), ← List.append_assoc, ← e]
    · rw [List.getElem?_append_right (by rw [subs_len]; omega), subs_len] at h
      obtain ⟨e, l⟩ := cd_part h
      refine ⟨?_, by show i + s.sg + 1 ≤ a.sg + b.sg + 1; omega⟩
      show Sum.inl ("to" : Str) :: (a.cd ++ b.cd) = Sum.inl ("to" : Str) :: ((a.cd ++ b.cd).take i ++ s.cd ++ (a.cd ++ b.cd).drop (i + s.sg))
      rw [List.take_append, List.drop_append, List.take_of_length_le (l := a.cd) (by omega), List.drop_of_length_le (l := a.cd) (by omega), la, List.nil_append, show i + s.sg - a.sg = i - a.sg + s.sg by omega, List.append_assoc, List.append_assoc, ← List.append_assoc (b.cd.take _), ← e]
theorem sub_all {p : Str → Bool} : ∀ {b s : Bt} {i : Nat}, b.all p = true → b.subs[i]? = some s → s.all p = true
  | b, s, 0, hb, h => by
    rw [subs_zero] at h
    cases h
    exact hb
  | bd _, s, i + 1, _, h => nomatch h
  | fr _, s, i + 1, _, h => nomatch h
  | of b, s, i + 1, hb, h => sub_all (b := b) (i := i) hb h
  | to a b, s, i + 1, hb, h => by
    obtain ⟨h1, h2⟩ := Bool.and_eq_true_iff.mp (show (a.all p && b.all p) = true from hb)
    have h : (a.subs ++ b.subs)[i]? = some s := h
    by_cases c : i < a.subs.length
    · rw [List.getElem?_append_left c] at h
      exact sub_all h1 h
    · rw [List.getElem?_append_right (by omega)] at h
      exact sub_all h2 h
/-! ### steps by the sign's index -/
def stepAt : Bt → Nat → Bt
  | to (of b) c, 0 => hand c 0 b
  | of b, i + 1 => of (stepAt b i)
  | to a b, i + 1 => if i < a.sg then to (stepAt a i) b else to a (stepAt b (i - a.sg))
  | b, _ => b
def isStep : Bt → Bool
  | to (of _) _ => true
  | _ => false
theorem cd_step {x c : Bt} : ∀ {b : Bt} {i : Nat}, b.subs[i]? = some (to (of x) c) → (stepAt b i).cd = b.cd.take i ++ (hand c 0 x).cd ++ b.cd.drop (i + (x.sg + c.sg + 2))
  | b, 0, h => by
    rw [subs_zero] at h
    cases h
    rw [List.take_zero, List.nil_append, Nat.zero_add, List.drop_of_length_le (by rw [cd_len]; show x.sg + 1 + c.sg + 1 ≤ _; omega), List.append_nil]
    rfl
  | bd _, i + 1, h => nomatch h
  | fr _, i + 1, h => nomatch h
  | of b, i + 1, h => by
    have e := cd_step (b := b) (i := i) h
    rw [show i + 1 + (x.sg + c.sg + 2) = (i + (x.sg + c.sg + 2)) + 1 by omega]
    show Sum.inl ("of" : Str) :: (stepAt b i).cd = Sum.inl ("of" : Str) :: (b.cd.take i ++ _ ++ b.cd.drop (i + (x.sg + c.sg + 2)))
    rw [e]
  | to a b, i + 1, h => by
    have h : (a.subs ++ b.subs)[i]? = some (to (of x) c) := h
    have la := cd_len a
    rw [show i + 1 + (x.sg + c.sg + 2) = (i + (x.sg + c.sg + 2)) + 1 by omega]
    have e0 : stepAt (to a b) (i + 1) = if i < a.sg then to (stepAt a i) b else to a (stepAt b (i - a.sg)) := by
      cases a <;> rfl
    rw [e0]
    by_cases c' : i < a.sg
    · rw [List.getElem?_append_left (by rw [subs_len]; exact c')] at h
      have e := cd_step h
      obtain ⟨_, l⟩ := cd_part h
      have l : i + (x.sg + 1 + c.sg + 1) ≤ a.sg := l
      rw [if_pos c']
      show Sum.inl ("to" : Str) :: ((stepAt a i).cd ++ b.cd) = Sum.inl ("to" : Str) :: ((a.cd ++ b.cd).take i ++ _ ++ (a.cd ++ b.cd).drop (i + (x.sg + c.sg + 2)))
      rw [e, List.take_append_of_le_length (by omega), List.drop_append_of_le_length (by omega), ← List.append_assoc]
    · rw [List.getElem?_append_right (by rw [subs_len]; omega), subs_len] at h
      have e := cd_step h
      rw [if_neg c']
      show Sum.inl ("to" : Str) :: (a.cd ++ (stepAt b (i - a.sg)).cd) = Sum.inl ("to" : Str) :: ((a.cd ++ b.cd).take i ++ _ ++ (a.cd ++ b.cd).drop (i + (x.sg + c.sg + 2)))
      rw [e, List.take_append, List.drop_append, List.take_of_length_le (l := a.cd) (by omega), List.drop_of_length_le (l := a.cd) (by omega), la, List.nil_append, show i + (x.sg + c.sg + 2) - a.sg = i - a.sg + (x.sg + c.sg + 2) by omega, List.append_assoc, List.append_assoc, List.append_assoc]
/-- a step stands where "to" and "of" stand one behind the other -/
def toOf (l : List Cd) (i : Nat) : Bool := decide (l[i]? = some (.inl "to")) && decide (l[i + 1]? = some (.inl "of"))
theorem ne_of {z : Str} (h : okN z = true) : z ≠ "of" := fun e => by subst e; exact absurd (not_of.symm.trans h) Bool.false_ne_true
theorem ne_to {z : Str} (h : okN z = true) : z ≠ "to" := fun e => by subst e; exact absurd (not_to.symm.trans h) Bool.false_ne_true
theorem head_of {b : Bt} (h : b.all okN = true) : b.cd[0]? = some (.inl "of") ↔ ∃ x, b = of x := by
  cases b with
  | bd n => exact ⟨fun e => (nomatch e), fun ⟨x, e⟩ => (nomatch e)⟩
  | fr z => exact ⟨fun e => absurd (Sum.inl.inj (Option.some.inj e)) (ne_of h), fun ⟨x, e⟩ => (nomatch e)⟩
  | of x => exact ⟨fun _ => ⟨x, rfl⟩, fun _ => rfl⟩
  | to a c => exact ⟨fun e => absurd (Sum.inl.inj (Option.some.inj e)) (by decide +kernel), fun ⟨x, e⟩ => (nomatch e)⟩
theorem head_to {b : Bt} (h : b.all okN = true) : b.cd[0]? = some (.inl "to") ↔ ∃ x c, b = to x c := by
  cases b with
  | bd n => exact ⟨fun e => (nomatch e), fun ⟨x, c, e⟩ => (nomatch e)⟩
  | fr z => exact ⟨fun e => absurd (Sum.inl.inj (Option.some.inj e)) (ne_to h), fun ⟨x, c, e⟩ => (nomatch e)⟩
  | of x => exact ⟨fun e => absurd (Sum.inl.inj (Option.some.inj e)) (by decide +kernel), fun ⟨x, c, e⟩ => (nomatch e)⟩
  | to a c => exact ⟨fun _ => ⟨a, c, rfl⟩, fun _ => rfl⟩
theorem cd_at {b s : Bt} {i j : Nat} (h : b.subs[i]? = some s) (hj : j < s.sg) : b.cd[i + j]? = s.cd[j]? := by
  obtain ⟨e, l⟩ := cd_part h
  have lt : (b.cd.take i).length = i := by rw [List.length_take, cd_len]; omega
  rw [e, List.append_assoc, List.getElem?_append_right (by omega), lt, List.getElem?_append_left (by rw [cd_len]; omega), show i + j - i = j by omega]
theorem sg_one (b : Bt) : 1 ≤ b.sg := b.sg_pos
theorem toOf_step {b s : Bt} {i : Nat} (hb : b.all okN = true) (h : b.subs[i]? = some s) : toOf b.cd i = isStep s := by
  have hs := sub_all hb h
  have h0 := cd_at (j := 0) h (sg_one s)
  rw [Nat.add_zero] at h0
  unfold toOf
  rw [h0]
  cases s with
  | bd n => rfl
  | fr z =>
    rw [show decide ((fr z).cd[0]? = some (Sum.inl ("to" : Str))) = false from decide_eq_false (fun e => ne_to hs (Sum.inl.inj (Option.some.inj e)))]
    rfl
  | of x =>
    rw [show decide ((of x).cd[0]? = some (Sum.inl ("to" : Str))) = false from decide_eq_false (fun e => absurd (Sum.inl.inj (Option.some.inj e)) (by decide +kernel : ¬ ("of" : Str) = "to"))]
    rfl
  | to a c =>
    have l1 := sg_one a
    have h1 := cd_at (j := 1) h (by show 1 < a.sg + c.sg + 1; omega)
    rw [decide_eq_true (show (to a c).cd[0]? = some (.inl "to") from rfl), h1, Bool.true_and]
    have e1 : (to a c).cd[1]? = a.cd[0]? := by
      show (a.cd ++ c.cd)[0]? = _
      rw [List.getElem?_append_left (by rw [cd_len]; omega)]
    rw [e1]
    have ha := (Bool.and_eq_true_iff.mp (show (a.all okN && c.all okN) = true from hs)).1
    by_cases q : a.cd[0]? = some (.inl "of")
    · obtain ⟨x, rfl⟩ := (head_of ha).mp q
      rw [decide_eq_true q]
      rfl
    · rw [decide_eq_false q]
      cases a with
      | of x => exact absurd rfl q
      | bd _ => rfl
      | fr _ => rfl
      | to _ _ => rfl
theorem sub_get (b : Bt) {i : Nat} (h : i < b.sg) : ∃ s, b.subs[i]? = some s := by
  rw [← subs_len] at h
  exact ⟨b.subs[i], List.getElem?_eq_getElem h⟩
/-- where the first step can be done -/
def fstI (b : Bt) : Option Nat := (List.range b.sg).find? (toOf b.cd)
theorem fst_some {b : Bt} {i : Nat} (hb : b.all okN = true) (h : fstI b = some i) : ∃ x c, b.subs[i]? = some (to (of x) c) := by
  have h1 := List.find?_some h
  have h2 : i < b.sg := List.mem_range.mp (List.mem_of_find?_eq_some h)
  obtain ⟨s, hs⟩ := sub_get b h2
  rw [toOf_step hb hs] at h1
  match s, h1 with
  | to (of x) c, _ => exact ⟨x, c, hs⟩
theorem fst_none {b : Bt} (h : fstI b = none) {i : Nat} : toOf b.cd i = false := by
  by_cases c : i < b.sg
  · have := List.find?_eq_none.mp h i (List.mem_range.mpr c)
    cases e : toOf b.cd i with
    | true => exact absurd e this
    | false => rfl
  · unfold toOf
    rw [List.getElem?_eq_none (by rw [cd_len]; omega)]
    rfl
theorem fst_least {b : Bt} {i : Nat} (h : fstI b = some i) {j : Nat} (hj : j < i) : toOf b.cd j = false := by
  unfold fstI at h
  rw [List.find?_range_eq_some] at h
  have := h.2.2 j hj
  cases e : toOf b.cd j with
  | true => rw [e] at this; cases this
  | false => rfl
/-- after a step at i no step stands two places ahead of it or more -/
theorem after_step {b x c : Bt} {i : Nat} (h : b.subs[i]? = some (to (of x) c)) (hf : ∀ j, j < i → toOf b.cd j = false) {j : Nat} (hj : j + 1 < i) : toOf (stepAt b i).cd j = false := by
  have e := cd_step h
  have l := subs_lt h
  have lt : (b.cd.take i).length = i := by rw [List.length_take, cd_len]; omega
  have get : ∀ k, k < i → (stepAt b i).cd[k]? = b.cd[k]? := fun k hk => by
    rw [e, List.append_assoc, List.getElem?_append_left (by omega), List.getElem?_take_of_lt hk]
  unfold toOf
  rw [get j (by omega), get (j + 1) hj]
  exact hf j (by omega)
theorem step_all {x c : Bt} {p : Str → Bool} : ∀ {b : Bt} {i : Nat}, b.all p = true → b.subs[i]? = some (to (of x) c) → (stepAt b i).all p = true
  | b, 0, hb, h => by
    rw [subs_zero] at h
    cases h
    obtain ⟨h1, h2⟩ := Bool.and_eq_true_iff.mp (show (x.all p && c.all p) = true from hb)
    have li : ∀ (by_ : Nat) (t : Bt) (k : Nat), t.all p = true → (lift by_ k t).all p = true := by
      intro by_ t
      induction t with
      | bd n => intro k _; rfl
      | fr z => intro k h; exact h
      | of t ih => intro k h; exact ih (k + 1) h
      | to t u i1 i2 =>
        intro k h
        obtain ⟨a, b⟩ := Bool.and_eq_true_iff.mp (show (t.all p && u.all p) = true from h)
        show ((lift by_ k t).all p && (lift by_ k u).all p) = true
        rw [i1 k a, i2 k b]
        rfl
    have ha : ∀ (t : Bt) (k : Nat), t.all p = true → (hand c k t).all p = true := by
      intro t
      induction t with
      | bd n =>
        intro k _
        show (if n = k then lift k 0 c else bd _).all p = true
        by_cases e : n = k
        · rw [if_pos e]; exact li k c 0 h2
        · rw [if_neg e]; rfl
      | fr z => intro k h; exact h
      | of t ih => intro k h; exact ih (k + 1) h
      | to t u i1 i2 =>
        intro k h
        obtain ⟨a, b⟩ := Bool.and_eq_true_iff.mp (show (t.all p && u.all p) = true from h)
        show ((hand c k t).all p && (hand c k u).all p) = true
        rw [i1 k a, i2 k b]
        rfl
    exact ha x 0 h1
  | bd _, i + 1, _, h => nomatch h
  | fr _, i + 1, _, h => nomatch h
  | of b, i + 1, hb, h => step_all (b := b) (i := i) hb h
  | to a b, i + 1, hb, h => by
    obtain ⟨h1, h2⟩ := Bool.and_eq_true_iff.mp (show (a.all p && b.all p) = true from hb)
    have h : (a.subs ++ b.subs)[i]? = some (to (of x) c) := h
    have e0 : stepAt (to a b) (i + 1) = if i < a.sg then to (stepAt a i) b else to a (stepAt b (i - a.sg)) := by
      cases a <;> rfl
    rw [e0]
    by_cases c' : i < a.sg
    · rw [List.getElem?_append_left (by rw [subs_len]; exact c')] at h
      rw [if_pos c']
      show ((stepAt a i).all p && b.all p) = true
      rw [step_all h1 h, h2]
      rfl
    · rw [List.getElem?_append_right (by rw [subs_len]; omega), subs_len] at h
      rw [if_neg c']
      show (a.all p && (stepAt b (i - a.sg)).all p) = true
      rw [h1, step_all h2 h]
      rfl
end Bt
end TG
set_option maxHeartbeats 400000
/-! rows of codes on the heap: what is promised of them -/
namespace TG
open PySem PySem.Spec L2
open PyProof.Rows hiding St
abbrev FoB := List (Bt × Nat)
def fbS (fs : FoB) : List Bt := fs.flatMap fun p => p.1.subs
def fbD (fs : FoB) : List Nat := fs.flatMap fun p => p.1.deps p.2
def fbV (fs : FoB) : List V := fs.reverse.map fun p => V.int (p.2 : Int)
theorem fbV_cons (p : Bt × Nat) (fs : FoB) : fbV (p :: fs) = fbV fs ++ [V.int (p.2 : Int)] := by
  unfold fbV
  rw [List.reverse_cons, List.map_append]
  rfl
theorem fbV_len (fs : FoB) : (fbV fs).length = fs.length := by unfold fbV; rw [List.length_map, List.length_reverse]
theorem fbS_len : ∀ fs : FoB, fs.length ≤ (fbS fs).length
  | [] => Nat.zero_le _
  | p :: fs => by
    have h1 := p.1.sg_pos
    have h2 := fbS_len fs
    show fs.length + 1 ≤ (p.1.subs ++ fbS fs).length
    rw [List.length_append, p.1.subs_len]
    omega
theorem fbS_head : ∀ {fs : FoB} {s : Bt} {r : List Bt}, fbS fs = s :: r → ∃ d fs', fs = (s, d) :: fs' ∧ s.subs ++ fbS fs' = s :: r
  | [], s, r, h => nomatch h
  | (t, d) :: fs, s, r, h => by
    have h : t.subs ++ fbS fs = s :: r := h
    have e : t = s := by
      cases t <;> (injection h with h1 _)
    subst e
    exact ⟨d, fs, rfl, h⟩
namespace Bt
/-- a part's first code -/
def hdC : Bt → Cd
  | bd n => .inr n
  | fr z => .inl z
  | of _ => .inl "of"
  | to _ _ => .inl "to"
theorem cd_head : ∀ b : Bt, b.cd[0]? = some b.hdC
  | bd _ => rfl
  | fr _ => rfl
  | of _ => rfl
  | to _ _ => rfl
theorem cd_sub {b s : Bt} {i : Nat} (h : b.subs[i]? = some s) : b.cd[i]? = some s.hdC := by
  have e := cd_at (j := 0) h s.sg_pos
  rw [Nat.add_zero, cd_head] at e
  exact e
end Bt
def cvs (b : Bt) : List V := b.cd.map cdV
theorem cvs_len (b : Bt) : (cvs b).length = b.sg := by
  unfold cvs
  rw [List.length_map, Bt.cd_len]
theorem cvs_at {b s : Bt} {i : Nat} (h : b.subs[i]? = some s) : (cvs b)[i]? = some (cdV s.hdC) := by
  unfold cvs
  rw [List.getElem?_map, Bt.cd_sub h]
  rfl
def spDepthsB : Sp := fun vs H Q _ => ∃ (r : Addr) (b : Bt), vs = [.ref r] ∧ H r = some (.lst (cvs b)) ∧ b.all okN = true ∧ b.sg ≤ 2000 ∧
  ∀ (a : Addr) (H' : Hp), Same H H' → H a = none → H' a = some (.lst (natV (b.deps 0))) → Q (.ref a) H'
/-- a writing's words as a row -/
def skel : Wr → Bt
  | .nm _ => .fr "name"
  | .of _ b => .of (skel b)
  | .to a b => .to (skel a) (skel b)
theorem skel_cvs : ∀ w : Wr, cvs (skel w) = wdV w
  | .nm _ => rfl
  | .of x b => congrArg (V.str "of" :: ·) (skel_cvs b)
  | .to a b => by
    show V.str "to" :: ((skel a).cd ++ (skel b).cd).map cdV = V.str "to" :: (a.subs ++ b.subs).map fun s => V.str s.wd
    rw [List.map_append, List.map_append]
    exact congrArg (V.str "to" :: ·) (congr (congrArg _ (skel_cvs a)) (skel_cvs b))
theorem skel_ok : ∀ w : Wr, (skel w).all okN = true
  | .nm _ => (by decide +kernel : okN "name" = true)
  | .of x b => skel_ok b
  | .to a b => by
    show ((skel a).all okN && (skel b).all okN) = true
    rw [skel_ok a, skel_ok b]
    rfl
theorem skel_deps : ∀ (w : Wr) (d : Nat), (skel w).deps d = w.deps d
  | .nm _, _ => rfl
  | .of x b, d => congrArg (d :: ·) (skel_deps b (d + 1))
  | .to a b, d => by
    show d :: ((skel a).deps d ++ (skel b).deps d) = d :: (a.deps d ++ b.deps d)
    rw [skel_deps a, skel_deps b]
theorem skel_sg : ∀ w : Wr, (skel w).sg = w.sg
  | .nm _ => rfl
  | .of x b => congrArg (· + 1) (skel_sg b)
  | .to a b => by
    show (skel a).sg + (skel b).sg + 1 = a.sg + b.sg + 1
    rw [skel_sg a, skel_sg b]
/-- a row from a place on: a part ahead of something -/
def spPartEnd : Sp := fun vs H Q _ => ∃ (r : Addr) (l : List V) (s : Bt) (i : Nat), vs = [.ref r, .int (i : Int)] ∧ H r = some (.lst l) ∧ (∃ rest, l.drop i = cvs s ++ rest) ∧ s.all okN = true ∧ s.sg ≤ 4000 ∧ Q (.int ((i + s.sg : Nat) : Int)) H
def looseB : Cd × Nat → Bool
  | (.inr n, d) => decide (d ≤ n)
  | (.inl _, _) => false
def spIsLoose : Sp := fun vs H Q _ => ∃ (c : Cd) (d : Nat), vs = [cdV c, .int (d : Int)] ∧ Q (.bl (looseB (c, d))) H
/-- the loose places of a row -/
def looseI (t : Bt) : List Nat := (List.range t.sg).filter fun i => match (t.zc 0)[i]? with | some (.inr n, d) => decide (d ≤ n) | _ => false
def spMoved : Sp := fun vs H Q _ => ∃ (r l : Addr) (t : Bt) (k : Nat), vs = [.ref r, .ref l, .int (k : Int)] ∧ H r = some (.lst (cvs t)) ∧ H l = some (.lst (natV (looseI t))) ∧ t.sg ≤ 2000 ∧
  ∀ (a : Addr) (H' : Hp), Same H H' → H a = none → H' a = some (.lst (cvs (Bt.lift k 0 t))) → Q (.ref a) H'
def spPutIn : Sp := fun vs H Q _ => ∃ (r o : Addr) (b t : Bt), vs = [.ref r, .ref o] ∧ H r = some (.lst (cvs b)) ∧ H o = some (.lst (cvs t)) ∧ b.all okN = true ∧ t.all okN = true ∧ b.sg + t.sg ≤ 2000 ∧
  ∀ (a : Addr) (H' : Hp), Same H H' → H a = none → H' a = some (.lst (cvs (Bt.hand t 0 b))) → Q (.ref a) H'
def spStepped : Sp := fun vs H Q _ => ∃ (r : Addr) (b x c : Bt) (i : Nat), vs = [.ref r, .int (i : Int)] ∧ H r = some (.lst (cvs b)) ∧ b.all okN = true ∧ b.sg ≤ 2000 ∧ b.subs[i]? = some (.to (.of x) c) ∧
  ∀ (a : Addr) (H' : Hp), Same H H' → H' a = some (.lst (cvs (Bt.stepAt b i))) → Q (.ref a) H'
def spFirst : Sp := fun vs H Q _ => ∃ (r : Addr) (b : Bt) (i : Nat), vs = [.ref r, .int (i : Int)] ∧ H r = some (.lst (cvs b)) ∧ b.all okN = true ∧ b.sg ≤ 2000 ∧ i ≤ 4000 ∧ (∀ j, j < i → Bt.toOf b.cd j = false) ∧
  Q (match Bt.fstI b with | none => .non | some k => .int (k : Int)) H
theorem lift_sg (by_ : Nat) : ∀ (t : Bt) (k : Nat), (Bt.lift by_ k t).sg = t.sg
  | .bd _, _ => rfl
  | .fr _, _ => rfl
  | .of b, k => congrArg (· + 1) (lift_sg by_ b (k + 1))
  | .to a b, k => by
    show (Bt.lift by_ k a).sg + (Bt.lift by_ k b).sg + 1 = a.sg + b.sg + 1
    rw [lift_sg by_ a k, lift_sg by_ b k]
theorem hand_sg (t : Bt) : ∀ (b : Bt) (k : Nat), (Bt.hand t k b).sg ≤ b.sg * t.sg
  | .bd n, k => by
    have := t.sg_pos
    show (if n = k then Bt.lift k 0 t else .bd _).sg ≤ 1 * t.sg
    by_cases e : n = k
    · rw [if_pos e, lift_sg]; omega
    · rw [if_neg e]; show 1 ≤ _; omega
  | .fr z, k => by
    have := t.sg_pos
    show 1 ≤ 1 * t.sg
    omega
  | .of b, k => by
    have h := hand_sg t b (k + 1)
    have := t.sg_pos
    show (Bt.hand t (k + 1) b).sg + 1 ≤ (b.sg + 1) * t.sg
    rw [Nat.add_mul]
    omega
  | .to a b, k => by
    have h1 := hand_sg t a k
    have h2 := hand_sg t b k
    have := t.sg_pos
    show (Bt.hand t k a).sg + (Bt.hand t k b).sg + 1 ≤ (a.sg + b.sg + 1) * t.sg
    rw [Nat.add_mul, Nat.add_mul]
    omega
end TG
set_option maxHeartbeats 400000
/-! own rule: d.get(k, x) of a dict of the module's top with texts for ints, k a text or an integer -/
namespace TG
open PySem PySem.Spec L2
open PyProof.Rows hiding St
/-- texts and what stands with them -/
def ksOf : List DictEntry → Option (List (Str × Int))
  | [] => some []
  | e :: r => match e.key, e.val with
    | .str x _, .int n _ => (ksOf r).map ((x, n) :: ·)
    | _, _ => none
def findS : List (Str × Int) → Str → Option Int
  | [], _ => none
  | (y, n) :: r, x => if y = x then some n else findS r x
theorem ks_shape : ∀ {l : List DictEntry} {ks : List (Str × Int)}, ksOf l = some ks → ∀ (k : Key), match (match k with | .inl _ => none | .inr x => findS ks x) with
    | none => l.find? (fun e => keyIs k e.key) = none
    | some n => ∃ e t, l.find? (fun e => keyIs k e.key) = some e ∧ e.val = .int n t
  | [], ks, h, k => by
    have h : some [] = some ks := h
    cases h
    cases k <;> exact rfl
  | e :: r, ks, h, k => by
    unfold ksOf at h
    split at h
    · rename_i x t n u ek ev
      obtain ⟨ks', h1, rfl⟩ := Option.map_eq_some_iff.mp h
      have ih := ks_shape h1 k
      cases k with
      | inl i =>
        have f : keyIs (.inl i) e.key = false := by rw [ek]; rfl
        show List.find? _ (e :: r) = none
        rw [List.find?_cons, f]
        exact ih
      | inr y =>
        show (match (if x = y then some n else findS ks' y) with | none => _ | some n => _)
        by_cases c : x = y
        · subst c
          rw [if_pos rfl]
          have f : keyIs (.inr x) e.key = true := by rw [ek]; exact keyIs_str x t
          exact ⟨e, u, by rw [List.find?_cons, f], ev⟩
        · rw [if_neg c]
          have f : keyIs (.inr y) e.key = false := by
            cases q : keyIs (.inr y) e.key with
            | false => rfl
            | true =>
              rcases keyIs_shape q with ⟨i, t', e1, _⟩ | ⟨z, t', e1, e2⟩
              · cases e1
              · cases e1
                rw [ek] at e2
                injection e2 with e2
                exact absurd e2 c
          rw [List.find?_cons, f]
          exact ih
    · cases h
/-- such a dict stands there, and holds just these -/
def KDis (K : PySem.W.Frag) (w : World) (a : Addr) (ks : List (Str × Int)) : Prop := ∃ es n, K.lookup a = some ⟨.type "dict", none, .dict es n, #[]⟩ ∧ PySem.W.KeysLit w.params es.toList ∧ (a == sysModules) = false ∧ ksOf es.toList = some ks
def kdGet (ks : List (Str × Int)) (k : Key) : Option Int := match k with | .inl _ => none | .inr x => findS ks x
def gotV (ks : List (Str × Int)) (k : Key) (z : V) : V := match kdGet ks k with | some n => .int n | none => z
def tKGetM (K : PySem.W.Frag) (w : World) (td ty tx : TE) : TE := fun σ H Q => td σ H fun x H1 => ∃ a ks, x = .ref a ∧ KDis K w a ks ∧ ty σ H1 fun y H2 => tx σ H2 fun z H3 => ∃ k : Key, y = kV k ∧ Q (gotV ks k z) H3
section
variable {X : Cx} {o e f : Expr} {apos cpos : Pos} {td ty tx : TE}
theorem pe_kgetM (ho : PE X o td) (he : PE X e ty) (hf : PE X f tx) (m : M2 X o "get" apos e f cpos) : PE X (.Call (.Attribute o "get" apos) [e, f] [] cpos) (tKGetM X.K X.w td ty tx) := by
  refine ⟨fun pins s σ H Q I h => ?_⟩
  refine wpAny_Call_method m.base m.few m.line PySem.F.plainAttrs_dict PySem.F.slot_dict_get PySem.F.type_dict_get (thn (ho.run pins s σ H _ I h) fun u s1 ⟨x, H1, I1, rx, a, ks, ex, ⟨es, n, hl, hk, hs, hks⟩, q1⟩ => ?_)
  subst ex
  obtain rfl : u = Value.ref a := rx
  have hm1 := PySem.W.mapOf_K (prog := X.prog) (w := X.w) I1.kIn hl hk
  refine ⟨hm1.typeIs, fun b q => ?_, ?_⟩
  · cases q
    exact ⟨_, I1.kIn _ _ hl, rfl⟩
  rw [m.trees]
  refine Calls.callWith_builtin rfl (Calls.evalArgs_plain (Calls.spliced_cons (thn (he.run pins s1 σ H1 _ I1 q1) fun iv s2 ⟨y, H2, I2, ry, q2⟩ =>
    Calls.spliced_cons (thn (hf.run pins s2 σ H2 _ I2 q2) fun fv s3 ⟨z, H3, I3, rz, k, ey, q3⟩ => Calls.spliced_nil ?_))))
  subst ey
  have hm0 := PySem.W.mapOf_K (prog := X.prog) (w := X.w) I3.kIn hl hk
  have hm : s3.heap.MapOf (mixKind X.prog X.w) a (fun k => findBy keyIs es k) := ⟨_, es, n, I3.kIn _ _ hl, ⟨rfl, rfl, rfl⟩, rfl, fun e he => by
    obtain ⟨x, t, e1, e2⟩ := hk.all e (Array.mem_toList_iff.mpr he)
    exact ⟨.inr x, by rw [e1]; exact keyIs_str x t, e2⟩, fun _ => rfl⟩
  refine call_meetsIn PySem.F.slot_dict_get hm0.typeIs PySem.F.entry_dict_get (PySem.F.args_dict_get_3 _ _ _) (meets_dict_get_default (mixKind X.prog X.w) a (kV_is ry) hs fv) ⟨_, hm, ?_⟩
  have sh := ks_shape hks k
  have ef : findBy keyIs es k = (es.toList.find? fun e => keyIs k e.key).map (·.val) := by
    obtain ⟨l⟩ := es
    unfold findBy
    rw [List.find?_toArray]
  rw [ef]
  unfold gotV kdGet at q3
  cases hc : (match k with | .inl _ => none | .inr x => findS ks x : Option Int) with
  | none =>
    rw [hc] at sh q3
    rw [show es.toList.find? (fun e => keyIs k e.key) = none from sh]
    exact ⟨z, H3, I3.tok _, rz, q3⟩
  | some n =>
    rw [hc] at sh q3
    obtain ⟨e, t, e1, e2⟩ := (show ∃ e t, es.toList.find? (fun e => keyIs k e.key) = some e ∧ e.val = .int n t from sh)
    rw [e1]
    refine ⟨.int n, H3, I3.tok _, ?_, q3⟩
    show RelV (.int n) e.val
    rw [e2]
    exact ⟨_, rfl⟩
end
end TG
set_option maxHeartbeats 400000
/-! rows of codes: the parts behind each item; the dict of their numbers -/
namespace TG
open PySem PySem.Spec L2
open PyProof.Rows hiding St
def partsD : List (Str × Int) := [("of", 1), ("to", 2), (">", 2)]
structure Pm (K : PySem.W.Frag) (w : World) (mg : Str → Option Value) : Prop where
  at_ : ∃ a, mg "PARTS" = some (.ref a) ∧ KDis K w a partsD
def kidsB : Bt → List Bt
  | .of b => [b]
  | .to a b => [a, b]
  | _ => []
def cdK : Cd → Key
  | .inl z => .inr z
  | .inr n => .inl (n : Int)
theorem cdK_V (c : Cd) : cdV c = kV (cdK c) := by cases c <;> rfl
theorem not_gt : okN (">" : Str) = false := by decide +kernel
theorem kids_get {b : Bt} (h : b.all okN = true) : gotV partsD (cdK b.hdC) (V.int 0) = V.int ((kidsB b).length : Int) := by
  cases b with
  | bd n => rfl
  | fr z =>
    have hz : okN z = true := h
    have e : findS partsD z = none := by
      show (if ("of" : Str) = z then some (1 : Int) else if ("to" : Str) = z then some 2 else if (">" : Str) = z then some 2 else none) = none
      rw [if_neg (fun e => Bt.ne_of hz e.symm), if_neg (fun e => Bt.ne_to hz e.symm), if_neg (fun e => by subst e; exact absurd (not_gt.symm.trans hz) Bool.false_ne_true)]
    show (match findS partsD z with | some n => V.int n | none => V.int 0) = V.int 0
    rw [e]
  | of b => rfl
  | to a b =>
    show (match findS partsD "to" with | some n => V.int n | none => V.int 0) = V.int 2
    rw [show findS partsD "to" = some 2 from by decide +kernel]
theorem kids_ok {b : Bt} (h : b.all okN = true) : ∀ k ∈ kidsB b, k.all okN = true := by
  cases b with
  | bd n => exact fun k hk => nomatch hk
  | fr z => exact fun k hk => nomatch hk
  | of b => exact fun k hk => by rw [List.mem_singleton.mp hk]; exact h
  | to a b =>
    have h : (a.all okN && b.all okN) = true := h
    rw [Bool.and_eq_true] at h
    intro k hk
    rcases List.mem_cons.mp hk with rfl | hk
    · exact h.1
    · rw [List.mem_singleton.mp hk]; exact h.2
def rowV (fs : List Bt) : List V := fs.flatMap cvs
def sgs (fs : List Bt) : Nat := (fs.map Bt.sg).sum
theorem cvs_kids (b : Bt) : cvs b = cdV b.hdC :: rowV (kidsB b) := by
  cases b with
  | bd n => rfl
  | fr z => rfl
  | of b =>
    show cdV (.inl "of") :: cvs b = cdV (.inl "of") :: (cvs b ++ [])
    rw [List.append_nil]
  | to a b =>
    show cdV (.inl "to") :: (a.cd ++ b.cd).map cdV = cdV (.inl "to") :: (cvs a ++ (cvs b ++ []))
    rw [List.append_nil, List.map_append]
    rfl
theorem rowV_cons (b : Bt) (fs : List Bt) : rowV (b :: fs) = cdV b.hdC :: rowV (kidsB b ++ fs) := by
  show cvs b ++ rowV fs = _
  rw [cvs_kids]
  show cdV b.hdC :: (rowV (kidsB b) ++ rowV fs) = cdV b.hdC :: (kidsB b ++ fs).flatMap cvs
  rw [List.flatMap_append]
  rfl
theorem sgs_cons (b : Bt) (fs : List Bt) : sgs (b :: fs) = sgs (kidsB b ++ fs) + 1 := by
  show b.sg + sgs fs = ((kidsB b ++ fs).map Bt.sg).sum + 1
  rw [List.map_append, List.sum_append]
  show b.sg + sgs fs = ((kidsB b).map Bt.sg).sum + sgs fs + 1
  have e : b.sg = ((kidsB b).map Bt.sg).sum + 1 := by
    cases b with
    | bd n => rfl
    | fr z => rfl
    | of b => rfl
    | to a b => show a.sg + b.sg + 1 = a.sg + (b.sg + 0) + 1; omega
  omega
theorem sgs_len : ∀ fs : List Bt, fs.length ≤ sgs fs
  | [] => Nat.zero_le _
  | b :: fs => by
    have h1 := b.sg_pos
    have h2 := sgs_len fs
    show fs.length + 1 ≤ b.sg + sgs fs
    omega
end TG
set_option maxHeartbeats 400000
/-! loose codes of a row; what is handed in, code by code -/
namespace TG
open PySem PySem.Spec L2
open PyProof.Rows hiding St
theorem mem_loose {t : Bt} {j : Nat} {p : Cd × Nat} (h : (t.zc 0)[j]? = some p) : j ∈ looseI t ↔ looseB p = true := by
  unfold looseI
  rw [List.mem_filter, h]
  have hl : j < t.sg := by rw [← t.zc_len 0]; exact lt_get h
  obtain ⟨c, d⟩ := p
  cases c with
  | inl z => exact ⟨fun x => absurd x.2 Bool.false_ne_true, fun x => absurd x Bool.false_ne_true⟩
  | inr n => exact ⟨fun x => x.2, fun x => ⟨List.mem_range.mpr hl, x⟩⟩
theorem loose_lt {t : Bt} {j : Nat} (h : j ∈ looseI t) : j < t.sg := List.mem_range.mp (List.mem_filter.mp h).1
theorem loose_nodup (t : Bt) : (looseI t).Nodup := List.nodup_range.sublist List.filter_sublist
theorem zc_get {t : Bt} {j : Nat} (h : j < t.sg) (d : Nat) : ∃ p, (t.zc d)[j]? = some p := get_lt (by rw [t.zc_len]; exact h)
theorem zc_cd {t : Bt} {j d : Nat} {p : Cd × Nat} (h : (t.zc d)[j]? = some p) : t.cd[j]? = some p.1 ∧ (t.deps d)[j]? = some p.2 := by
  unfold Bt.zc at h
  rw [List.getElem?_zip_eq_some] at h
  exact h
theorem lift_not {k : Nat} {p : Cd × Nat} (h : looseB p = false) : Bt.liftC k p = p.1 := by
  obtain ⟨c, d⟩ := p
  cases c with
  | inl z => rfl
  | inr n =>
    show Sum.inr (if d ≤ n then n + k else n) = _
    rw [if_neg (of_decide_eq_false h)]
theorem lift_loose {k : Nat} {p : Cd × Nat} (h : looseB p = true) : ∃ n, p.1 = .inr n ∧ Bt.liftC k p = .inr (n + k) := by
  obtain ⟨c, d⟩ := p
  cases c with
  | inl z => exact absurd h Bool.false_ne_true
  | inr n =>
    refine ⟨n, rfl, ?_⟩
    show Sum.inr (if d ≤ n then n + k else n) = _
    rw [if_pos (of_decide_eq_true h)]
theorem lift_at {t : Bt} {k j : Nat} {p : Cd × Nat} (h : (t.zc 0)[j]? = some p) : (cvs (Bt.lift k 0 t))[j]? = some (cdV (Bt.liftC k p)) := by
  unfold cvs
  rw [Bt.lift_cd, List.getElem?_map, List.getElem?_map, h]
  rfl
/-- the values of one code of the body -/
theorem hand_eq {t : Bt} {n d : Nat} (h : n = d) : Bt.handC t (.inr n, d) = (Bt.lift d 0 t).cd := by
  show (if n = d then _ else _) = _
  rw [if_pos h]
theorem hand_gt {t : Bt} {n d : Nat} (h : n ≠ d) (h2 : looseB (.inr n, d) = true) : Bt.handC t (.inr n, d) = [.inr (n - 1)] ∧ 1 ≤ n := by
  have h2 : d ≤ n := of_decide_eq_true h2
  refine ⟨?_, by omega⟩
  show (if n = d then _ else [Sum.inr (if d < n then n - 1 else n)]) = _
  rw [if_neg h, if_pos (by omega)]
theorem hand_lt {t : Bt} {p : Cd × Nat} (h : looseB p = false) : Bt.handC t p = [p.1] := by
  obtain ⟨c, d⟩ := p
  cases c with
  | inl z => rfl
  | inr n =>
    have h : ¬ d ≤ n := of_decide_eq_false h
    show (if n = d then _ else [Sum.inr (if d < n then n - 1 else n)]) = _
    rw [if_neg (by omega), if_neg (by omega)]
theorem hand_len (t : Bt) : ∀ (l : List (Cd × Nat)), (l.flatMap (Bt.handC t)).length ≤ l.length * t.sg
  | [] => Nat.zero_le _
  | p :: l => by
    have ih := hand_len t l
    have h1 := t.sg_pos
    have h2 : (Bt.handC t p).length ≤ t.sg := by
      obtain ⟨c, d⟩ := p
      cases c with
      | inl z => exact h1
      | inr n =>
        show (if n = d then (Bt.lift d 0 t).cd else [_]).length ≤ _
        by_cases e : n = d
        · rw [if_pos e, Bt.cd_len, lift_sg]; exact Nat.le_refl _
        · rw [if_neg e]; exact h1
    show (Bt.handC t p ++ l.flatMap (Bt.handC t)).length ≤ (l.length + 1) * t.sg
    rw [List.length_append, Nat.add_mul]
    omega
/-- the loose places below i -/
def loU (t : Bt) (i : Nat) : List Nat := (List.range i).filter fun i => match (t.zc 0)[i]? with | some (.inr n, d) => decide (d ≤ n) | _ => false
theorem loU_succ {t : Bt} {i : Nat} {p : Cd × Nat} (h : (t.zc 0)[i]? = some p) : loU t (i + 1) = loU t i ++ if looseB p then [i] else [] := by
  unfold loU
  rw [List.range_succ, List.filter_append]
  congr 1
  obtain ⟨c, d⟩ := p
  cases c with
  | inl z => simp [h, looseB]
  | inr n => simp [h, looseB, List.filter_cons]
theorem loU_len (t : Bt) (i : Nat) : (loU t i).length ≤ i := by
  unfold loU
  refine Nat.le_trans (List.length_filter_le _ _) ?_
  rw [List.length_range]
  exact Nat.le_refl _
theorem cvs_zc {t : Bt} {i d : Nat} {p : Cd × Nat} (h : (t.zc d)[i]? = some p) : (cvs t)[i]? = some (cdV p.1) ∧ (natV (t.deps d))[i]? = some (.int (p.2 : Int)) := by
  obtain ⟨h1, h2⟩ := zc_cd h
  exact ⟨by unfold cvs; rw [List.getElem?_map, h1]; rfl, natV_at h2⟩
end TG
set_option maxHeartbeats 400000
/-! a row cut at a step -/
namespace TG
open PySem PySem.Spec L2
open PyProof.Rows hiding St
theorem cut_mid {xs : List V} {i j : Nat} (h : i ≤ j) (h2 : j ≤ xs.length) : cutV xs (some (i : Int)) (some (j : Int)) = (xs.drop i).take (j - i) := by
  unfold cutV
  rw [HT.sIx_nat, HT.sIx_nat, Nat.min_eq_left h2, Nat.min_eq_left (Nat.le_trans h h2)]
theorem step_cut {b x c : Bt} {i : Nat} (h : b.subs[i]? = some (.to (.of x) c)) : ∃ pre suf : List V, pre.length = i ∧ cvs b = pre ++ (cdV (.inl "to") :: (cvs (.of x) ++ (cvs c ++ suf))) ∧ cvs (Bt.stepAt b i) = pre ++ cvs (Bt.hand c 0 x) ++ suf := by
  obtain ⟨e, l⟩ := Bt.cd_part h
  have e2 := Bt.cd_step h
  refine ⟨(b.cd.take i).map cdV, (b.cd.drop (i + (x.sg + c.sg + 2))).map cdV, ?_, ?_, ?_⟩
  · rw [List.length_map, List.length_take, Bt.cd_len]
    omega
  · have l' : (Bt.to (.of x) c).sg = x.sg + c.sg + 2 := by show x.sg + 1 + c.sg + 1 = _; omega
    rw [l'] at e
    have e3 := congrArg (List.map cdV) e
    rw [List.map_append, List.map_append, List.append_assoc] at e3
    refine e3.trans (congrArg _ ?_)
    show cdV (.inl "to") :: (((Bt.of x).cd ++ c.cd).map cdV ++ _) = _
    rw [List.map_append, List.append_assoc]
    rfl
  · have e3 := congrArg (List.map cdV) e2
    rw [List.map_append, List.map_append] at e3
    exact e3
theorem drop_pre {α : Type} {pre r : List α} {i : Nat} (h : pre.length = i) : (pre ++ r).drop i = r := by subst h; exact List.drop_left
theorem take_pre {α : Type} {pre r : List α} {i : Nat} (h : pre.length = i) : (pre ++ r).take i = pre := by subst h; exact List.take_left
theorem cdV_str {c : Cd} {z : Str} : decide (cdV c = V.str z) = decide (c = .inl z) := by
  refine decide_eq_decide.mpr ?_
  cases c with
  | inl y => exact ⟨fun e => by injection e with e; rw [e], fun e => by injection e with e; rw [e]; rfl⟩
  | inr n => exact ⟨fun e => V.noConfusion e, fun e => nomatch e⟩
theorem scal_cd {c : Cd} {z : Str} : scal (cdV c) (V.str z) = true := by cases c <;> rfl
theorem toOf_end {b : Bt} {j : Nat} (h : b.sg ≤ j + 1) : Bt.toOf b.cd j = false := by
  unfold Bt.toOf
  rw [List.getElem?_eq_none (l := b.cd) (i := j + 1) (by rw [Bt.cd_len]; exact h)]
  exact Bool.and_false _
theorem fst_is {b : Bt} {m : Nat} (hm : m + 1 < b.sg) (h : Bt.toOf b.cd m = true) (h2 : ∀ j, j < m → Bt.toOf b.cd j = false) : Bt.fstI b = some m := by
  unfold Bt.fstI
  rw [List.find?_range_eq_some]
  exact ⟨h, List.mem_range.mpr (by omega), fun j hj => by rw [h2 j hj]; rfl⟩
theorem fst_no {b : Bt} (h2 : ∀ j, j + 1 < b.sg → Bt.toOf b.cd j = false) : Bt.fstI b = none := by
  unfold Bt.fstI
  rw [List.find?_eq_none]
  intro j hj
  by_cases c : j + 1 < b.sg
  · rw [h2 j c]; exact Bool.false_ne_true
  · rw [toOf_end (by omega)]; exact Bool.false_ne_true
end TG
set_option maxHeartbeats 400000
/-! a writing of a row of codes: new names by depth -/
namespace TG
open PySem PySem.Spec L2
open PyProof.Rows hiding St
namespace Bt
/-- each number is bound within -/
def cl : Bt → Nat → Bool
  | bd n, d => decide (n < d)
  | fr _, _ => true
  | of b, d => cl b (d + 1)
  | to a b, d => cl a d && cl b d
theorem deps_lt : ∀ (b : Bt) (d : Nat), ∀ x ∈ b.deps d, d ≤ x ∧ x < d + b.sg
  | bd _, d, x, h => by rw [List.mem_singleton.mp h]; exact ⟨Nat.le_refl _, Nat.lt_succ_self _⟩
  | fr _, d, x, h => by rw [List.mem_singleton.mp h]; exact ⟨Nat.le_refl _, Nat.lt_succ_self _⟩
  | of b, d, x, h => by
    show d ≤ x ∧ x < d + (b.sg + 1)
    rcases List.mem_cons.mp h with rfl | h
    · exact ⟨Nat.le_refl _, by omega⟩
    · have := deps_lt b (d + 1) x h
      omega
  | to a b, d, x, h => by
    show d ≤ x ∧ x < d + (a.sg + b.sg + 1)
    rcases List.mem_cons.mp h with rfl | h
    · exact ⟨Nat.le_refl _, by omega⟩
    · rcases List.mem_append.mp h with h | h
      · have := deps_lt a d x h
        omega
      · have := deps_lt b d x h
        omega
theorem deps_self (b : Bt) (d : Nat) : d ∈ b.deps d := by cases b <;> exact List.mem_cons_self
/-- its free names -/
def frs : Bt → List Str
  | bd _ => []
  | fr z => [z]
  | of b => b.frs
  | to a b => a.frs ++ b.frs
theorem frs_cd : ∀ (b : Bt) (z : Str), z ∈ b.frs → Sum.inl z ∈ b.cd
  | fr y, z, h => by rw [List.mem_singleton.mp h]; exact List.mem_cons_self
  | of b, z, h => List.mem_cons_of_mem _ (frs_cd b z h)
  | to a b, z, h => by
    refine List.mem_cons_of_mem _ ?_
    rcases List.mem_append.mp h with h | h
    · exact List.mem_append_left _ (frs_cd a z h)
    · exact List.mem_append_right _ (frs_cd b z h)
end Bt
/-- so many names, one for each depth -/
def nmW (l : List Str) : Nat → Bt → Wr
  | d, .bd n => .nm (l[d - n - 1]?.getD "x")
  | _, .fr z => .nm z
  | d, .of b => .of (l[d]?.getD "x") (nmW l (d + 1) b)
  | d, .to a b => .to (nmW l d a) (nmW l d b)
theorem nmW_sg (l : List Str) : ∀ (b : Bt) (d : Nat), (nmW l d b).sg = b.sg
  | .bd _, _ => rfl
  | .fr _, _ => rfl
  | .of b, d => congrArg (· + 1) (nmW_sg l b (d + 1))
  | .to a b, d => by
    show (nmW l d a).sg + (nmW l d b).sg + 1 = a.sg + b.sg + 1
    rw [nmW_sg l a d, nmW_sg l b d]
theorem nmW_cnt {l : List Str} (hnd : l.Nodup) : ∀ (b : Bt) (d : Nat), b.cl d = true → (∀ x ∈ b.deps d, x < l.length) → (∀ z ∈ b.frs, z ∉ l) → (nmW l d b).cnt (l.take d).reverse = b
  | .bd n, d, hc, hd, _ => by
    have hn : n < d := of_decide_eq_true hc
    have hdl : d < l.length := hd d (Bt.deps_self _ d)
    have hi : d - n - 1 < l.length := by omega
    have e : l[d - n - 1]?.getD "x" = l[d - n - 1] := by rw [List.getElem?_eq_getElem hi]; rfl
    have hrl : n < (l.take d).reverse.length := by rw [List.length_reverse, List.length_take]; omega
    have e2 : (l.take d).reverse[n] = l[d - n - 1] := by
      rw [List.getElem_reverse, List.getElem_take]
      congr 1
      rw [List.length_take]
      omega
    have nd : ((l.take d).reverse).Nodup := List.pairwise_reverse.mpr ((hnd.sublist (List.take_sublist _ _)).imp fun h => Ne.symm h)
    show (if (l[d - n - 1]?.getD "x") ∈ (l.take d).reverse then Bt.bd ((l.take d).reverse.idxOf (l[d - n - 1]?.getD "x")) else _) = _
    rw [e, ← e2, if_pos (List.getElem_mem _)]
    exact congrArg Bt.bd (List.Nodup.idxOf_getElem nd _ hrl)
  | .fr z, d, _, _, hf => by
    have hz : z ∉ l := hf z List.mem_cons_self
    show (if z ∈ (l.take d).reverse then _ else Bt.fr z) = _
    rw [if_neg fun h => hz (List.mem_of_mem_take (List.mem_reverse.mp h))]
  | .of b, d, hc, hd, hf => by
    have hdl : d < l.length := hd d (Bt.deps_self _ d)
    have e : l[d]?.getD "x" = l[d] := by rw [List.getElem?_eq_getElem hdl]; rfl
    have ih := nmW_cnt hnd b (d + 1) hc (fun x hx => hd x (List.mem_cons_of_mem _ hx)) hf
    have e2 : (l.take (d + 1)).reverse = l[d] :: (l.take d).reverse := by
      rw [List.take_succ, List.getElem?_eq_getElem hdl, List.reverse_append]
      rfl
    rw [e2] at ih
    show Bt.of ((nmW l (d + 1) b).cnt ((l[d]?.getD "x") :: (l.take d).reverse)) = _
    rw [e, ih]
  | .to a b, d, hc, hd, hf => by
    have hc : (a.cl d && b.cl d) = true := hc
    rw [Bool.and_eq_true] at hc
    show Bt.to ((nmW l d a).cnt _) ((nmW l d b).cnt _) = _
    rw [nmW_cnt hnd a d hc.1 (fun x hx => hd x (List.mem_cons_of_mem _ (List.mem_append_left _ hx))) fun z hz => hf z (List.mem_append_left _ hz),
      nmW_cnt hnd b d hc.2 (fun x hx => hd x (List.mem_cons_of_mem _ (List.mem_append_right _ hx))) fun z hz => hf z (List.mem_append_right _ hz)]
theorem nmW_ok {l : List Str} (hl : ∀ z ∈ l, okN z = true) : ∀ (b : Bt) (d : Nat), b.all okN = true → b.cl d = true → (∀ x ∈ b.deps d, x < l.length) → (nmW l d b).all okN = true
  | .bd n, d, _, hc, hd => by
    have hn : n < d := of_decide_eq_true hc
    have hdl : d < l.length := hd d (Bt.deps_self _ d)
    have hi : d - n - 1 < l.length := by omega
    show okN (l[d - n - 1]?.getD "x") = true
    rw [List.getElem?_eq_getElem hi]
    exact hl _ (List.getElem_mem _)
  | .fr z, d, ho, _, _ => ho
  | .of b, d, ho, hc, hd => by
    have hdl : d < l.length := hd d (Bt.deps_self _ d)
    show (okN (l[d]?.getD "x") && (nmW l (d + 1) b).all okN) = true
    rw [List.getElem?_eq_getElem hdl, nmW_ok hl b (d + 1) ho hc fun x hx => hd x (List.mem_cons_of_mem _ hx)]
    show (okN l[d] && true) = true
    rw [hl _ (List.getElem_mem _)]
    rfl
  | .to a b, d, ho, hc, hd => by
    have ho : (a.all okN && b.all okN) = true := ho
    have hc : (a.cl d && b.cl d) = true := hc
    rw [Bool.and_eq_true] at hc ho
    show ((nmW l d a).all okN && (nmW l d b).all okN) = true
    rw [nmW_ok hl a d ho.1 hc.1 fun x hx => hd x (List.mem_cons_of_mem _ (List.mem_append_left _ hx)), nmW_ok hl b d ho.2 hc.2 fun x hx => hd x (List.mem_cons_of_mem _ (List.mem_append_right _ hx))]
    rfl
/-- the names that a row uses, and the greatest depth -/
def cdO : Cd → Option (Option Str)
  | .inl z => some (some z)
  | .inr _ => none
def useB (b : Bt) : List (Option Str) := (b.cd.filterMap cdO).foldl insN []
def mxL : List Nat → Nat
  | [] => 0
  | x :: l => max x (mxL l)
theorem mxL_ge : ∀ {l : List Nat} {x : Nat}, x ∈ l → x ≤ mxL l
  | y :: l, x, h => by
    show x ≤ max y (mxL l)
    rcases List.mem_cons.mp h with rfl | h
    · exact Nat.le_max_left _ _
    · exact Nat.le_trans (mxL_ge h) (Nat.le_max_right _ _)
theorem mxL_mem : ∀ {l : List Nat}, l ≠ [] → mxL l ∈ l
  | [x], _ => by
    show max x 0 ∈ [x]
    rw [Nat.max_eq_left (Nat.zero_le _)]
    exact List.mem_cons_self
  | x :: y :: l, _ => by
    have ih := mxL_mem (l := y :: l) (List.cons_ne_nil _ _)
    show max x (mxL (y :: l)) ∈ _
    by_cases c : mxL (y :: l) ≤ x
    · rw [Nat.max_eq_left c]; exact List.mem_cons_self
    · rw [Nat.max_eq_right (by omega)]; exact List.mem_cons_of_mem _ ih
def nmsB (b : Bt) : List Str := (nwL (useB b) (mxL (b.deps 0) + 1 + (useB b).length)).take (mxL (b.deps 0) + 1)
/-- the writing with these codes -/
def nmd (b : Bt) : Wr := nmW (nmsB b) 0 b
theorem mx_lt (b : Bt) : mxL (b.deps 0) < b.sg := by
  have h := mxL_mem (l := b.deps 0) (List.ne_nil_of_mem (b.deps_self 0))
  have := (b.deps_lt 0 _ h).2
  omega
theorem useB_len (b : Bt) : (useB b).length ≤ b.sg := by
  have h := insN_len (b.cd.filterMap cdO) []
  have h2 := List.length_filterMap_le cdO b.cd
  rw [Bt.cd_len] at h2
  have : ([] : List (Option Str)).length = 0 := rfl
  unfold useB
  omega
/-- what each sign of such a writing keeps -/
def entB (l : List Str) : Cd × Nat → V × V
  | (.inr n, d) => (.str "name", .str (l[d - n - 1]?.getD "x"))
  | (.inl z, d) => if z = "of" then (.str "of", .str (l[d]?.getD "x")) else if z = "to" then (.str "to", .non) else (.str "name", .str z)
theorem nmW_ents (l : List Str) : ∀ (b : Bt) (d : Nat), b.all okN = true → (nmW l d b).tr.ents = (b.zc d).map (entB l)
  | .bd n, d, _ => rfl
  | .fr z, d, h => by
    have hz : okN z = true := h
    show [(V.str "name", V.str z)] = [if z = "of" then _ else if z = "to" then _ else _]
    rw [if_neg (Bt.ne_of hz), if_neg (Bt.ne_to hz)]
  | .of b, d, h => by
    rw [Bt.zc_of]
    show (V.str "of", V.str (l[d]?.getD "x")) :: (nmW l (d + 1) b).tr.ents = entB l (.inl "of", d) :: (b.zc (d + 1)).map (entB l)
    rw [nmW_ents l b (d + 1) h]
    rfl
  | .to a b, d, h => by
    have h : (a.all okN && b.all okN) = true := h
    rw [Bool.and_eq_true] at h
    rw [Bt.zc_to]
    show (V.str "to", V.non) :: ((nmW l d a).tr.ents ++ (nmW l d b).tr.ents) = entB l (.inl "to", d) :: (a.zc d ++ b.zc d).map (entB l)
    rw [nmW_ents l a d h.1, nmW_ents l b d h.2, List.map_append]
    congr 1
theorem zc_bound : ∀ (b : Bt) (d : Nat), b.cl d = true → ∀ (n e : Nat), (Sum.inr n, e) ∈ b.zc d → n < e
  | .bd m, d, h, n, e, hm => by
    have hm : (Sum.inr n, e) ∈ [((Sum.inr m : Cd), d)] := hm
    cases List.mem_singleton.mp hm
    exact of_decide_eq_true h
  | .fr z, d, h, n, e, hm => by
    have hm : (Sum.inr n, e) ∈ [((Sum.inl z : Cd), d)] := hm
    cases List.mem_singleton.mp hm
  | .of b, d, h, n, e, hm => by
    rw [Bt.zc_of] at hm
    rcases List.mem_cons.mp hm with hm | hm
    · cases hm
    · exact zc_bound b (d + 1) h n e hm
  | .to a b, d, h, n, e, hm => by
    have h : (a.cl d && b.cl d) = true := h
    rw [Bool.and_eq_true] at h
    rw [Bt.zc_to] at hm
    rcases List.mem_cons.mp hm with hm | hm
    · cases hm
    · rcases List.mem_append.mp hm with hm | hm
      · exact zc_bound a d h.1 n e hm
      · exact zc_bound b d h.2 n e hm
def spNamed : Sp := fun vs H Q _ => ∃ (r : Addr) (b : Bt), vs = [.ref r] ∧ H r = some (.lst (cvs b)) ∧ b.all okN = true ∧ b.cl 0 = true ∧ b.sg ≤ 2000 ∧
  ∀ (v : V) (H' : Hp), Same H H' → WA H' v (nmd b) → Q v H'
/-- layers of a row -/
def spLayers : Sp := fun vs H Q _ => ∃ (r : Addr) (b : Bt), vs = [.ref r] ∧ H r = some (.lst (cvs b)) ∧ b.all okN = true ∧ b.sg ≤ 4000 ∧ ∀ H', Same H H' → Q (.int (b.ly : Int)) H'
end TG
set_option maxHeartbeats 400000
/-! what is left of a row behind so many codes; layers -/
namespace TG
open PySem PySem.Spec L2
open PyProof.Rows hiding St
def nxB : List Bt → List Bt
  | [] => []
  | p :: r => kidsB p ++ r
def foB (b : Bt) : Nat → List Bt
  | 0 => [b]
  | i + 1 => nxB (foB b i)
theorem sgs_foB (b : Bt) : ∀ i, i ≤ b.sg → sgs (foB b i) + i = b.sg
  | 0, _ => by show b.sg + 0 + 0 = b.sg; rfl
  | i + 1, h => by
    have ih := sgs_foB b i (by omega)
    show sgs (nxB (foB b i)) + (i + 1) = b.sg
    cases q : foB b i with
    | nil =>
      rw [q] at ih
      have : 0 + i = b.sg := ih
      omega
    | cons p r =>
      rw [q, sgs_cons] at ih
      show sgs (kidsB p ++ r) + (i + 1) = b.sg
      omega
theorem foB_row (b : Bt) : ∀ i, i ≤ b.sg → (cvs b).drop i = rowV (foB b i)
  | 0, _ => by show cvs b = cvs b ++ []; rw [List.append_nil]
  | i + 1, h => by
    have ih := foB_row b i (by omega)
    rw [← List.tail_drop, ih]
    show _ = rowV (nxB (foB b i))
    cases q : foB b i with
    | nil => rfl
    | cons p r => rw [rowV_cons]; rfl
theorem foB_head (b : Bt) {i : Nat} (h : i < b.sg) : ∃ p r, foB b i = p :: r ∧ foB b (i + 1) = kidsB p ++ r ∧ (cvs b)[i]? = some (cdV p.hdC) := by
  have e := foB_row b i (by omega)
  have s := sgs_foB b i (by omega)
  cases q : foB b i with
  | nil =>
    rw [q] at s
    have : 0 + i = b.sg := s
    omega
  | cons p r =>
    refine ⟨p, r, rfl, by show nxB (foB b i) = _; rw [q]; rfl, ?_⟩
    rw [q, rowV_cons] at e
    have e2 : ((cvs b).drop i)[0]? = some (cdV p.hdC) := by rw [e]; rfl
    rw [List.getElem?_drop, Nat.add_zero] at e2
    exact e2
theorem foB_end (b : Bt) : foB b b.sg = [] := by
  have s := sgs_foB b b.sg (Nat.le_refl _)
  have l := sgs_len (foB b b.sg)
  exact List.length_eq_zero_iff.mp (by omega)
theorem foB_ok {b : Bt} (h : b.all okN = true) : ∀ i, ∀ p ∈ foB b i, p.all okN = true
  | 0, p, hp => by rw [List.mem_singleton.mp hp]; exact h
  | i + 1, p, hp => by
    have hp : p ∈ nxB (foB b i) := hp
    cases q : foB b i with
    | nil => rw [q] at hp; exact absurd hp List.not_mem_nil
    | cons s r =>
      rw [q] at hp
      rcases List.mem_append.mp hp with hp | hp
      · exact kids_ok (foB_ok h i s (by rw [q]; exact List.mem_cons_self)) p hp
      · exact foB_ok h i p (by rw [q]; exact List.mem_cons_of_mem _ hp)
def lyS (fs : List Bt) : List V := (fs.map fun p => V.int (p.ly : Int)).reverse
theorem lyS_cons (p : Bt) (fs : List Bt) : lyS (p :: fs) = lyS fs ++ [V.int (p.ly : Int)] := by
  unfold lyS
  rw [List.map_cons, List.reverse_cons]
theorem lyS_len (fs : List Bt) : (lyS fs).length = fs.length := by unfold lyS; rw [List.length_reverse, List.length_map]
/-- the most layers among the first ones -/
def mxK : List Bt → Nat
  | [] => 0
  | p :: r => max p.ly (mxK r)
def mxT (l : List Bt) (t : Nat) : Nat := (l.take t).foldl (fun m p => max m p.ly) 0
theorem ly_kids (p : Bt) : mxT (kidsB p) (kidsB p).length + 1 = p.ly := by
  cases p with
  | bd n => rfl
  | fr z => rfl
  | of b => show max 0 b.ly + 1 = b.ly + 1; rw [Nat.max_eq_right (Nat.zero_le _)]
  | to a b => show max (max 0 a.ly) b.ly + 1 = max a.ly b.ly + 1; rw [Nat.max_eq_right (Nat.zero_le _)]
theorem mxT_succ {l : List Bt} {t : Nat} {p : Bt} (h : l[t]? = some p) : mxT l (t + 1) = max (mxT l t) p.ly := by
  unfold mxT
  rw [List.take_succ, h, List.foldl_append]
  rfl
end TG
set_option maxHeartbeats 400000
/-! TooMany raised: what and most -/
namespace TG
open PySem PySem.Spec L2
open PyProof.Rows hiding St
/-- the __init__ of an error with two fields -/
def spX2 (K : PySem.W.Frag) (g1 g2 : Str) : Sp := fun vs H Q _ => ∃ (a C : Addr) (v1 v2 : V), vs = [.ref a, v1, v2] ∧ OexC K C ∧ PySem.W.findIn K (.ref C) g1 = some none ∧ PySem.W.findIn K (.ref C) g2 = some none ∧ H a = some (exo a C none) ∧
  ∀ (dx : Addr) (H' : Hp), H dx = none → dx ≠ a → H' a = some (exo a C (some dx)) → H' dx = some (exd dx [(g2, v2), (g1, v1)]) → (∀ b o, b ≠ a → H b = some o → H' b = some o) → Q .non H'
/-- such a class at the module's top -/
structure Er2 (P : Program) (w : World) (K : PySem.W.Frag) (mg : Str → Option Value) (base : Heap) (x : Str) (C f : Addr) (fd : FuncData) (g1 g2 : Str) : Prop where
  o : OexC K C
  i : PySem.W.findIn K (.ref C) "__init__" = some (some (.ref f))
  t : PySem.W.typeIn K (.ref f) = some (.type "function")
  G : FnOk P w K mg base CX0 1 f fd ["self", g1, g2] (spX2 K g1 g2)
  n1 : PySem.W.findIn K (.ref C) g1 = some none
  n2 : PySem.W.findIn K (.ref C) g2 = some none
  m : mg x = some (.ref C)
  b : Binds K fd ["self", g1, g2] []
/-- it was raised with these -/
def OutX (C : Addr) (H : Hp) (E : XK) (u : Str) (n : Nat) : Prop := ∀ (d : Addr) (H' : Hp), Same H H' → H d = none → H' d = some (.xd [("most", .int (n : Int)), ("what", .str u)]) → E (.ref C) (some d) H'
/-- too great a row -/
def grt (b : Bt) : Option (Str × Nat) := if b.sg > 2000 then some ("signs", 2000) else if b.sg > 200 ∧ b.ly > 200 then some ("layers", 200) else none
def spRefuse (C : Addr) : Sp := fun vs H Q E => ∃ (r : Addr) (b : Bt), vs = [.ref r] ∧ H r = some (.lst (cvs b)) ∧ b.all okN = true ∧ b.sg ≤ 5000000 ∧
  match grt b with
  | none => ∀ H', Same H H' → Q .non H'
  | some (u, n) => OutX C H E u n
theorem mkO_end {C a dx : Addr} {H1 H2 : Hp} {g1 g2 : Str} {v1 v2 : V} (ha : H1 a = none) (hd : upd H1 a (exo a C none) dx = none) (hne : dx ≠ a) (k : ∀ b o, b ≠ a → upd H1 a (exo a C none) b = some o → H2 b = some o) :
    H1 dx = none ∧ Same H1 (upd (del H2 a) dx (.xd [(g2, v2), (g1, v1)])) := by
  rw [upd_ne hne] at hd
  refine ⟨hd, fun b o e => ?_⟩
  have hb : b ≠ a := ne_of_none e ha
  rw [upd_ne (ne_of_none e hd), del_ne hb]
  exact k b o hb (by rw [upd_ne hb]; exact e)
end TG
set_option maxHeartbeats 400000
/-! tuples all the way in, each laid by the program -/
namespace TG
open PySem PySem.Spec L2
open PyProof.Rows hiding St
mutual
inductive TkD (H : Hp) : V → PyData → Prop
  | non : TkD H .non .none
  | bl (b : Bool) : TkD H (.bl b) (.bool b)
  | int (i : Int) : TkD H (.int i) (.int i)
  | str (x : Str) : TkD H (.str x) (.str x)
  | tup {a : Addr} {xs : List V} {ds : List PyData} : H a = some (.tup xs) → TkAll H xs ds → TkD H (.ref a) (.tuple ds)
inductive TkAll (H : Hp) : List V → List PyData → Prop
  | nil : TkAll H [] []
  | cons {v : V} {vs : List V} {d : PyData} {ds : List PyData} : TkD H v d → TkAll H vs ds → TkAll H (v :: vs) (d :: ds)
end
mutual
theorem TkD.keep {H H' : Hp} (k : ∀ a xs, H a = some (.tup xs) → H' a = some (.tup xs)) : ∀ {d : PyData} {v : V}, TkD H v d → TkD H' v d
  | _, _, .non => .non
  | _, _, .bl b => .bl b
  | _, _, .int i => .int i
  | _, _, .str x => .str x
  | _, _, .tup h t => .tup (k _ _ h) (TkAll.keep k t)
theorem TkAll.keep {H H' : Hp} (k : ∀ a xs, H a = some (.tup xs) → H' a = some (.tup xs)) : ∀ {ds : List PyData} {vs : List V}, TkAll H vs ds → TkAll H' vs ds
  | _, _, .nil => .nil
  | _, _, .cons a t => .cons (TkD.keep k a) (TkAll.keep k t)
end
mutual
theorem TkD.dp {K : PySem.W.Frag} {H : Hp} : ∀ {d : PyData} {v : V}, TkD H v d → Dp K H v d
  | _, _, .non => .non
  | _, _, .bl b => .bl b
  | _, _, .int i => .int i
  | _, _, .str x => .str x
  | _, _, .tup h t => .tup (SqT.of h) (TkAll.dp t)
theorem TkAll.dp {K : PySem.W.Frag} {H : Hp} : ∀ {ds : List PyData} {vs : List V}, TkAll H vs ds → DpAll K H vs ds
  | _, _, .nil => .nil
  | _, _, .cons a t => .cons (TkD.dp a) (TkAll.dp t)
end
mutual
def dpD : PyData → Nat
  | .list ds => dpAll ds + 1
  | .tuple ds => dpAll ds + 1
  | _ => 0
def dpAll : List PyData → Nat
  | [] => 0
  | d :: ds => max (dpD d) (dpAll ds)
end
mutual
def szD : PyData → Nat
  | .list ds => szAll ds + 1
  | .tuple ds => szAll ds + 1
  | _ => 1
def szAll : List PyData → Nat
  | [] => 0
  | d :: ds => szD d + szAll ds
end
theorem szD_pos (d : PyData) : 1 ≤ szD d := by
  cases d with
  | list ds => exact Nat.le_add_left _ _
  | tuple ds => exact Nat.le_add_left _ _
  | _ => exact Nat.le_refl _
theorem szAll_len : ∀ ds : List PyData, ds.length ≤ szAll ds
  | [] => Nat.zero_le _
  | d :: ds => by
    have h1 := szD_pos d
    have h2 := szAll_len ds
    show ds.length + 1 ≤ szD d + szAll ds
    omega
theorem szAll_le : ∀ {ds : List PyData} {d : PyData}, d ∈ ds → szD d ≤ szAll ds
  | e :: ds, d, h => by
    show szD d ≤ szD e + szAll ds
    rcases List.mem_cons.mp h with rfl | h
    · exact Nat.le_add_right _ _
    · exact Nat.le_trans (szAll_le h) (Nat.le_add_left _ _)
theorem dpAll_le : ∀ {ds : List PyData} {d : PyData}, d ∈ ds → dpD d ≤ dpAll ds
  | e :: ds, d, h => by
    show dpD d ≤ max (dpD e) (dpAll ds)
    rcases List.mem_cons.mp h with rfl | h
    · exact Nat.le_max_left _ _
    · exact Nat.le_trans (dpAll_le h) (Nat.le_max_right _ _)
theorem tkAll_get {H : Hp} : ∀ {vs : List V} {ds : List PyData}, TkAll H vs ds → vs.length = ds.length ∧ ∀ (i : Nat) (v : V), vs[i]? = some v → ∃ d, ds[i]? = some d ∧ TkD H v d
  | _, _, .nil => ⟨rfl, fun i v h => by simp at h⟩
  | _, _, .cons a t => by
    obtain ⟨l, k⟩ := tkAll_get t
    refine ⟨congrArg (· + 1) l, fun i v h => ?_⟩
    match i, h with
    | 0, h => cases h; exact ⟨_, rfl, a⟩
    | i + 1, h => exact k i v h
theorem tkAll_snoc {H : Hp} : ∀ {vs : List V} {ds : List PyData} {v : V} {d : PyData}, TkAll H vs ds → TkD H v d → TkAll H (vs ++ [v]) (ds ++ [d])
  | _, _, _, _, .nil, h => .cons h .nil
  | _, _, _, _, .cons a t, h => .cons a (tkAll_snoc t h)
theorem WA.tk {H : Hp} {v : V} {w : Wr} (h : WA H v w) : TkD H v w.d := by
  induction h with
  | nm z => exact .str z
  | of e _ ih => exact .tup e (.cons (.str _) (.cons (.str _) (.cons ih .nil)))
  | to e _ _ i1 i2 => exact .tup e (.cons (.str _) (.cons i1 (.cons i2 .nil)))
theorem TkD.wa {H : Hp} : ∀ {w : Wr} {v : V}, TkD H v w.d → WA H v w
  | .nm z, _, h => by
    have h : TkD H _ (.str z) := h
    cases h with | str => exact .nm z
  | .of x b, _, h => by
    have h : TkD H _ (.tuple [.str "of", .str x, b.d]) := h
    cases h with
    | tup e t =>
      cases t with | cons h1 t =>
      cases t with | cons h2 t =>
      cases t with | cons h3 t =>
      cases t
      cases h1
      cases h2
      exact .of e (TkD.wa h3)
  | .to a b, _, h => by
    have h : TkD H _ (.tuple [.str "to", a.d, b.d]) := h
    cases h with
    | tup e t =>
      cases t with | cons h1 t =>
      cases t with | cons h2 t =>
      cases t with | cons h3 t =>
      cases t
      cases h1
      exact .to e (TkD.wa h2) (TkD.wa h3)
theorem Wr.d_dp : ∀ w : Wr, dpD w.d + 1 ≤ w.ly
  | .nm z => Nat.le_refl _
  | .of x b => by
    have := Wr.d_dp b
    show max 0 (max 0 (max (dpD b.d) 0)) + 1 + 1 ≤ b.ly + 1
    omega
  | .to a b => by
    have h1 := Wr.d_dp a
    have h2 := Wr.d_dp b
    show max 0 (max (dpD a.d) (max (dpD b.d) 0)) + 1 + 1 ≤ max a.ly b.ly + 1
    omega
theorem Wr.d_sz : ∀ w : Wr, szD w.d ≤ 4 * w.sg
  | .nm z => by show 1 ≤ 4 * 1; omega
  | .of x b => by
    have := Wr.d_sz b
    show 1 + (1 + (szD b.d + 0)) + 1 ≤ 4 * (b.sg + 1)
    omega
  | .to a b => by
    have h1 := Wr.d_sz a
    have h2 := Wr.d_sz b
    show 1 + (szD a.d + (szD b.d + 0)) + 1 ≤ 4 * (a.sg + b.sg + 1)
    omega
def spFixed (n : Nat) : Sp := fun vs H Q _ => ∃ (v : V) (d : PyData), vs = [v] ∧ TkD H v d ∧ dpD d < n ∧ szD d ≤ 100000 ∧ ∀ (v' : V) (H' : Hp), Same H H' → TkD H' v' d → Q v' H'
end TG
set_option maxHeartbeats 400000
/-! tables: a polynomial for each choice -/
namespace TG
open PySem PySem.Spec L2
open PyProof.Rows hiding St
theorem TermH.keep {p : Addr} {H H' : Hp} {e : V} {t : List Int × Int} (h : TermH H e t) (hp : ∀ xs, H p ≠ some (.tup xs)) (k : KeepT p H H') : TermH H' e t := by
  obtain ⟨b, u, h1, h2, h3⟩ := h
  exact ⟨b, u, h1, k _ _ (fun e => hp _ (by rw [← e]; exact h2)) tbl_ne_tup h2, k _ _ (fun e => hp _ (by rw [← e]; exact h3)) tbl_ne_tup h3⟩
/-- powers of this choice alone -/
def OffI (c ns : List Int) : Prop := ∀ q ∈ c.zip ns, q.1 = 1 ∨ q.2 = 0
/-- a polynomial of a choice -/
abbrev TermP (c : List Int) (t : List Int × Int) : Prop := t.1.length = c.length ∧ (∀ p ∈ t.1, 0 ≤ p ∧ p ≤ 60) ∧ OffI c t.1 ∧ 1 ≤ t.2
def GoodP (c : List Int) (ts : List (List Int × Int)) : Prop := ts.length ≤ 500 ∧ (∀ t ∈ ts, TermP c t) ∧ ascB (ts.map (·.1)) = true
theorem any_intV {K : PySem.W.Frag} (i : Int) (H : Hp) : AnyV K H (.int i) := ⟨_, HasTy.int i⟩
theorem rv_intV {K : PySem.W.Frag} {H : Hp} (i : Int) : RowV K H (.int i) none := ⟨⟨"int", HasTy.int i, rfl⟩, fun _ e => nomatch e⟩
theorem rv_intsV {K : PySem.W.Frag} {H : Hp} {u : Addr} {ns : List Int} (h : H u = some (.lst (ns.map V.int)) ∨ H u = some (.tup (ns.map V.int))) (hl : ns.length ≤ 900) : RowV K H (.ref u) (some (ns.map V.int)) :=
  ⟨⟨u, rfl, h, by rw [List.length_map]; exact hl⟩, fun xs e x hx => by
    cases e
    obtain ⟨i, _, rfl⟩ := List.mem_map.mp hx
    exact any_intV i H⟩
theorem tv_twoV {K : PySem.W.Frag} {H : Hp} {b u : Addr} {ns : List Int} {s : Int} (h : H b = some (.lst [.ref u, .int s]) ∨ H b = some (.tup [.ref u, .int s])) (h2 : H u = some (.lst (ns.map V.int)) ∨ H u = some (.tup (ns.map V.int))) (hl : ns.length ≤ 900) :
    TermV K H (.ref b) (some [(.ref u, some (ns.map V.int)), (.int s, none)]) :=
  ⟨⟨b, rfl, h, (by show 2 ≤ 900; decide)⟩, fun ys e y hy => by
    cases e
    rcases List.mem_cons.mp hy with rfl | hy
    · exact rv_intsV h2 hl
    · rw [List.mem_singleton.mp hy]
      exact rv_intV s⟩
theorem powT_twoV {u v : V} {ns : List Int} {q : Rw} : powT (some [(u, some (ns.map V.int)), (v, q)]) = ns := by
  show (ns.map V.int).map vlV = ns
  rw [List.map_map]
  exact List.map_id ns
theorem termB_P {c : List Int} {t : List Int × Int} {u : V} {q : Rw} (g : TermP c t) : termB c (some [(u, some (t.1.map V.int)), (.int t.2, q)]) = true := by
  obtain ⟨g1, g2, g3, g4⟩ := g
  show ((rowB (some (t.1.map V.int)) c.length (.int 60) && withinV (.int t.2) (.int 1) .non) && offB c (t.1.map V.int)) = true
  have e1 : rowB (some (t.1.map V.int)) c.length (.int 60) = true := by
    show (decide ((t.1.map V.int).length = c.length) && (t.1.map V.int).all fun x => withinV x (.int 0) (.int 60)) = true
    rw [decide_eq_true (by rw [List.length_map, g1]), Bool.true_and, List.all_eq_true]
    intro x hx
    obtain ⟨i, hi, rfl⟩ := List.mem_map.mp hx
    obtain ⟨i0, i1⟩ := g2 i hi
    show (decide (0 ≤ i) && decide (i ≤ 60)) = true
    rw [decide_eq_true i0, decide_eq_true i1]
    rfl
  have e2 : withinV (.int t.2) (.int 1) .non = true := by
    show (decide (1 ≤ t.2) && true) = true
    rw [decide_eq_true g4]
    rfl
  have e3 : offB c (t.1.map V.int) = true := by
    unfold offB
    rw [List.zip_map_right, List.all_eq_true]
    intro x hx
    obtain ⟨y, hy, rfl⟩ := List.mem_map.mp hx
    rcases g3 y hy with h | h
    · show (decide (y.1 = 1) || _) = true
      rw [decide_eq_true h]
      rfl
    · show (_ || decide (y.2 = 0)) = true
      rw [decide_eq_true h, Bool.or_true]
  rw [e1, e2, e3]
  rfl
theorem terms_P {K : PySem.W.Frag} {H : Hp} {c : List Int} (hc : c.length ≤ 3) : ∀ {es : List V} {ts : List (List Int × Int)}, Paired (TermH H) es ts → (∀ t ∈ ts, TermP c t) →
    ∃ L : List (V × Te), L.map Prod.fst = es ∧ (∀ y ∈ L, TermV K H y.1 y.2 ∧ termB c y.2 = true) ∧ L.map (fun y => powT y.2) = ts.map (·.1)
  | _, _, .nil, _ => ⟨[], rfl, fun y h => absurd h List.not_mem_nil, rfl⟩
  | e :: es, t :: ts, .cons ⟨b, u, h1, h2, h3⟩ r, h => by
    obtain ⟨L, l1, l2, l3⟩ := terms_P hc r fun x hx => h x (List.mem_cons_of_mem _ hx)
    have g := h t List.mem_cons_self
    have g1 := g.1
    refine ⟨(e, some [(.ref u, some (t.1.map V.int)), (.int t.2, none)]) :: L, by rw [List.map_cons, l1], fun y hy => ?_, by rw [List.map_cons, List.map_cons, l3]; exact congrArg (· :: _) powT_twoV⟩
    rcases List.mem_cons.mp hy with rfl | hy
    · subst h1
      exact ⟨tv_twoV (.inr h2) (.inr h3) (by omega), termB_P g⟩
    · exact l2 y hy
theorem terms_poly {K : PySem.W.Frag} {H : Hp} {c : List Int} {v : V} {ts : List (List Int × Int)} (hc : c.length ≤ 3) (hv : TermsV H v ts) (g : GoodP c ts) : ∃ p : Vl, PolyV K H v p ∧ polyB c p = true := by
  obtain ⟨r, es, rfl, hr, he⟩ := hv
  obtain ⟨g1, g2, g3⟩ := g
  obtain ⟨L, l1, l2, l3⟩ := terms_P (K := K) hc he g2
  have le := TG.paired_len he
  have ll : L.length = es.length := by rw [← l1, List.length_map]
  refine ⟨some L, ⟨⟨r, rfl, by show H r = some (.lst (L.map Prod.fst)) ∨ H r = some (.tup (L.map Prod.fst)); rw [l1]; exact hr, by rw [List.length_map]; omega⟩, fun ys e y hy => by cases e; exact (l2 y hy).1⟩, ?_⟩
  show ((L.all fun y => termB c y.2) && ascB (L.map fun y => powT y.2)) = true
  rw [l3, g3, Bool.and_true, List.all_eq_true]
  exact fun y hy => (l2 y hy).2
/-! lists and tuples all the way, as the data that they are as tuples -/
mutual
inductive InD (H : Hp) : V → PyData → Prop
  | int (i : Int) : InD H (.int i) (.int i)
  | seq {a : Addr} {xs : List V} {ds : List PyData} : (H a = some (.lst xs) ∨ H a = some (.tup xs)) → InAll H xs ds → InD H (.ref a) (.tuple ds)
inductive InAll (H : Hp) : List V → List PyData → Prop
  | nil : InAll H [] []
  | cons {v : V} {vs : List V} {d : PyData} {ds : List PyData} : InD H v d → InAll H vs ds → InAll H (v :: vs) (d :: ds)
end
mutual
theorem InD.same {H H' : Hp} (k : Same H H') : ∀ {d : PyData} {v : V}, InD H v d → InD H' v d
  | _, _, .int i => .int i
  | _, _, .seq h a => .seq (h.imp (k _ _) (k _ _)) (InAll.same k a)
theorem InAll.same {H H' : Hp} (k : Same H H') : ∀ {ds : List PyData} {vs : List V}, InAll H vs ds → InAll H' vs ds
  | _, _, .nil => .nil
  | _, _, .cons a t => .cons (InD.same k a) (InAll.same k t)
end
theorem inAll_get {H : Hp} : ∀ {xs : List V} {ds : List PyData}, InAll H xs ds → xs.length = ds.length ∧ ∀ (i : Nat) (x : V), xs[i]? = some x → ∃ d, ds[i]? = some d ∧ InD H x d
  | _, _, .nil => ⟨rfl, fun i x h => by cases h⟩
  | _, _, .cons a t => by
    obtain ⟨h1, h2⟩ := inAll_get t
    refine ⟨by rw [List.length_cons, List.length_cons, h1], fun i x h => ?_⟩
    cases i with
    | zero => cases h; exact ⟨_, rfl, a⟩
    | succ i => exact h2 i x h
theorem inAll_by {H : Hp} {α : Type} {R : V → α → Prop} {f : α → PyData} (h : ∀ v a, R v a → InD H v (f a)) : ∀ {vs : List V} {as : List α}, Paired R vs as → InAll H vs (as.map f)
  | _, _, .nil => .nil
  | _, _, .cons a t => .cons (h _ _ a) (inAll_by h t)
def intsD (ns : List Int) : PyData := .tuple (ns.map PyData.int)
def termD (t : List Int × Int) : PyData := .tuple [intsD t.1, .int t.2]
def polyD (ts : List (List Int × Int)) : PyData := .tuple (ts.map termD)
def rowsD (rows : List (List (List Int × Int))) : PyData := .tuple (rows.map polyD)
theorem ints_in {H : Hp} : ∀ ns : List Int, InAll H (ns.map V.int) (ns.map PyData.int)
  | [] => .nil
  | n :: ns => .cons (.int n) (ints_in ns)
theorem TermH.inD {H : Hp} {e : V} {t : List Int × Int} (h : TermH H e t) : InD H e (termD t) := by
  obtain ⟨b, u, rfl, h2, h3⟩ := h
  exact .seq (.inr h2) (.cons (.seq (.inr h3) (ints_in _)) (.cons (.int _) .nil))
theorem TermsV.inD {H : Hp} {v : V} {ts : List (List Int × Int)} (h : TermsV H v ts) : InD H v (polyD ts) := by
  obtain ⟨a, es, rfl, h1, h2⟩ := h
  exact .seq h1 (inAll_by (R := TermH H) (f := termD) (fun _ _ h => TermH.inD h) h2)
/-- what is told of the data: a tuple of tuples of terms -/
theorem tk_ints {H : Hp} : ∀ {vs : List V} {ns : List Int}, TkAll H vs (ns.map PyData.int) → vs = ns.map V.int
  | _, [], h => by cases h; rfl
  | _, n :: ns, h => by
    cases h with
    | cons a t =>
      cases a
      rw [tk_ints t]
      rfl
theorem tk_term {H : Hp} {e : V} {t : List Int × Int} (h : TkD H e (termD t)) : TermH H e t := by
  unfold termD at h
  cases h with
  | tup h1 a =>
    cases a with
    | cons x r =>
      cases r with
      | cons y r2 =>
        cases r2
        cases y
        unfold intsD at x
        cases x with
        | tup h3 a3 =>
          rw [tk_ints a3] at h3
          exact ⟨_, _, rfl, h1, h3⟩
theorem tk_by {H : Hp} {α : Type} {R : V → α → Prop} {f : α → PyData} (h : ∀ v a, TkD H v (f a) → R v a) : ∀ {vs : List V} {as : List α}, TkAll H vs (as.map f) → Paired R vs as
  | _, [], t => by cases t; exact .nil
  | _, a :: as, t => by
    cases t with
    | cons x r => exact .cons (h _ _ x) (tk_by h r)
/-- a tuple of terms -/
def TermsT (H : Hp) (v : V) (ts : List (List Int × Int)) : Prop := ∃ a es, v = .ref a ∧ H a = some (.tup es) ∧ Paired (TermH H) es ts
theorem TermsT.v {H : Hp} {v : V} {ts : List (List Int × Int)} (h : TermsT H v ts) : TermsV H v ts := by
  obtain ⟨a, es, e, h1, h2⟩ := h
  exact ⟨a, es, e, .inr h1, h2⟩
theorem TermsT.keep {p : Addr} {H H' : Hp} {v : V} {ts : List (List Int × Int)} (h : TermsT H v ts) (hp : ∀ xs, H p ≠ some (.tup xs)) (k : KeepT p H H') : TermsT H' v ts := by
  obtain ⟨a, es, e, h1, h2⟩ := h
  exact ⟨a, es, e, k _ _ (fun z => hp _ (by rw [← z]; exact h1)) tbl_ne_tup h1, paired_imp (fun _ _ h => h.keep hp k) h2⟩
theorem tk_poly {H : Hp} {v : V} {ts : List (List Int × Int)} (h : TkD H v (polyD ts)) : TermsT H v ts := by
  unfold polyD at h
  cases h with
  | tup h1 a => exact ⟨_, _, rfl, h1, tk_by (fun _ _ => tk_term) a⟩
theorem tk_rows {H : Hp} {v : V} {rows : List (List (List Int × Int))} (h : TkD H v (rowsD rows)) : ∃ r rs, v = .ref r ∧ H r = some (.tup rs) ∧ Paired (TermsT H) rs rows := by
  unfold rowsD at h
  cases h with
  | tup h1 a => exact ⟨_, _, rfl, h1, tk_by (fun _ _ => tk_poly) a⟩
/-! a table's object -/
structure TabC (K : PySem.W.Frag) (mg : Str → Option Value) (C fI fA : Addr) : Prop where
  cl : Cls K C
  nM : NoAttr K C "many"
  nR : NoAttr K C "rows"
  mgC : mg "Table" = some (.ref C)
  mk_ : Mk K C fI
  at_ : Meth K C "at" fA
def TabAt (H : Hp) (C T : Addr) (m : Nat) (rows : List (List (List Int × Int))) : Prop := ∃ dx r rs, H T = some (.ins C dx [("many", .int (m : Int)), ("rows", .ref r)]) ∧ H r = some (.tup rs) ∧ Paired (TermsT H) rs rows
theorem szAll_le2 {k : Nat} : ∀ {ds : List PyData}, (∀ d ∈ ds, szD d ≤ k) → szAll ds ≤ ds.length * k
  | [], _ => Nat.zero_le _
  | d :: ds, h => by
    have h1 := h d List.mem_cons_self
    have h2 := szAll_le2 fun x hx => h x (List.mem_cons_of_mem _ hx)
    show szD d + szAll ds ≤ (ds.length + 1) * k
    rw [Nat.succ_mul]
    omega
theorem dpAll_le2 {k : Nat} : ∀ {ds : List PyData}, (∀ d ∈ ds, dpD d ≤ k) → dpAll ds ≤ k
  | [], _ => Nat.zero_le _
  | d :: ds, h => Nat.max_le.mpr ⟨h d List.mem_cons_self, dpAll_le2 fun x hx => h x (List.mem_cons_of_mem _ hx)⟩
theorem intsD_dp (ns : List Int) : dpD (intsD ns) ≤ 1 ∧ szD (intsD ns) ≤ ns.length + 1 := by
  have h1 : dpAll (ns.map PyData.int) ≤ 0 := dpAll_le2 fun d hd => by
    obtain ⟨i, _, rfl⟩ := List.mem_map.mp hd
    exact Nat.le_refl _
  have h2 : szAll (ns.map PyData.int) ≤ (ns.map PyData.int).length * 1 := szAll_le2 fun d hd => by
    obtain ⟨i, _, rfl⟩ := List.mem_map.mp hd
    exact Nat.le_refl _
  rw [List.length_map] at h2
  constructor
  · show dpAll (ns.map PyData.int) + 1 ≤ 1
    omega
  · show szAll (ns.map PyData.int) + 1 ≤ ns.length + 1
    omega
theorem rowsD_dp {rows : List (List (List Int × Int))} (h8 : rows.length ≤ 8) (h : ∀ ts ∈ rows, ts.length ≤ 500 ∧ ∀ t ∈ ts, t.1.length ≤ 3) : dpD (rowsD rows) < 5 ∧ szD (rowsD rows) ≤ 100000 := by
  have term : ∀ t : List Int × Int, t.1.length ≤ 3 → dpD (termD t) ≤ 2 ∧ szD (termD t) ≤ 6 := fun t ht => by
    obtain ⟨h1, h2⟩ := intsD_dp t.1
    constructor
    · show max (dpD (intsD t.1)) (max 0 0) + 1 ≤ 2
      omega
    · show szD (intsD t.1) + (1 + 0) + 1 ≤ 6
      omega
  have poly : ∀ ts ∈ rows, dpD (polyD ts) ≤ 3 ∧ szD (polyD ts) ≤ 3001 := fun ts hts => by
    obtain ⟨h1, h2⟩ := h ts hts
    have a := dpAll_le2 (k := 2) (ds := ts.map termD) fun d hd => by
      obtain ⟨t, ht, rfl⟩ := List.mem_map.mp hd
      exact (term t (h2 t ht)).1
    have b := szAll_le2 (k := 6) (ds := ts.map termD) fun d hd => by
      obtain ⟨t, ht, rfl⟩ := List.mem_map.mp hd
      exact (term t (h2 t ht)).2
    rw [List.length_map] at b
    constructor
    · show dpAll (ts.map termD) + 1 ≤ 3
      omega
    · show szAll (ts.map termD) + 1 ≤ 3001
      omega
  have a := dpAll_le2 (k := 3) (ds := rows.map polyD) fun d hd => by
    obtain ⟨t, ht, rfl⟩ := List.mem_map.mp hd
    exact (poly t ht).1
  have b := szAll_le2 (k := 3001) (ds := rows.map polyD) fun d hd => by
    obtain ⟨t, ht, rfl⟩ := List.mem_map.mp hd
    exact (poly t ht).2
  rw [List.length_map] at b
  constructor
  · show dpAll (rows.map polyD) + 1 < 5
    omega
  · show szAll (rows.map polyD) + 1 ≤ 100000
    omega
theorem TermsV.keep {p : Addr} {H H' : Hp} {v : V} {ts : List (List Int × Int)} (h : TermsV H v ts) (h1 : ∀ xs, H p ≠ some (.tup xs)) (h2 : ∀ xs, H p ≠ some (.lst xs)) (k : KeepT p H H') : TermsV H' v ts := by
  obtain ⟨a, es, e, h3, h4⟩ := h
  refine ⟨a, es, e, ?_, paired_imp (fun _ _ h => h.keep h1 k) h4⟩
  rcases h3 with h | h
  · exact .inl (k _ _ (fun z => h2 _ (by rw [← z]; exact h)) tbl_ne_lst h)
  · exact .inr (k _ _ (fun z => h1 _ (by rw [← z]; exact h)) tbl_ne_tup h)
theorem ins_ne {H : Hp} {p C dx : Addr} {fs : List (Str × V)} (h : H p = some (.ins C dx fs)) : (∀ xs, H p ≠ some (.tup xs)) ∧ ∀ xs, H p ≠ some (.lst xs) := by
  constructor
  · intro xs e
    rw [h] at e
    cases e
  · intro xs e
    rw [h] at e
    cases e
end TG
namespace TF52
open PySem PySem.Spec L2 TG TA
open PyProof.Rows hiding St
/-! ### lists and tuples made tuples; rows of a table; a table made -/
section
variable {X : Cx} {k j : Nat} {f : Addr} {fd : FuncData} {ps : List Str} {sp : Sp} {x : Str} {st : Stmt} {p pos : Pos} {e : Expr} {es : List Expr} {t : L2.TA}
theorem pe_cdL (D : Df X.K X.mg x st f fd ps) (F : FnOk X.prog X.w X.K X.mg X.base (L2.CX X.prog X.w) k f fd ps sp) (hr : Room j X.A) (hj : k ≤ j) (ha : PA X (e :: es) t) (hg : Gl X x := by rfl)
    (hdb : (x == ("__debug__" : Str)) = false := by decide) (he : starEach (e :: es) X.env = (false, eval e X.env) :: starEach es X.env := by rfl) (hpl : (backTo pos (starEach es X.env)).any (·.1) = false := by rfl) :
    PE X (.Call (.Name x p) (e :: es) [] pos) (tCall sp [] E0 t) := pe_call F (hr.mono hj) hg D.m D.F.kp D.b .nil passL ha hdb he hpl
end
abbrev sFix : Stmt := top 22
abbrev sArR : Stmt := top 60
abbrev sTbI : Stmt := inClass (top 59) 0
theorem scFix : FnScope ["value", "items", "item"] ["value"] (defScope sFix) := ⟨rfl, rfl, rfl, by decide +kernel, rfl, by decide +kernel, by decide +kernel⟩
theorem scArR : FnScope ["many", "value", "choice", "row"] ["many", "value"] (defScope sArR) := ⟨rfl, rfl, rfl, by decide +kernel, rfl, by decide +kernel, by decide +kernel⟩
theorem scTbI : FnScope ["self", "many", "rows"] ["self", "many", "rows"] (defScope sTbI) := ⟨rfl, rfl, rfl, by decide +kernel, rfl, by decide +kernel, by decide +kernel⟩
/-- fixed of such data: tuples all the way -/
def spFixS (n : Nat) : Sp := fun vs H Q _ => ∃ (v : V) (d : PyData), vs = [v] ∧ InD H v d ∧ dpD d < n ∧ szD d ≤ 100000 ∧ ∀ (v' : V) (H' : Hp), Same H H' → TkD H' v' d → Q v' H'
/-- the rows of a table of so many numbers -/
def RowsV (H : Hp) (v : V) (rows : List (List (List Int × Int))) : Prop := ∃ a rs, v = .ref a ∧ (H a = some (.lst rs) ∨ H a = some (.tup rs)) ∧ Paired (TermsV H) rs rows
theorem RowsV.same {H H' : Hp} {v : V} {rows : List (List (List Int × Int))} (h : RowsV H v rows) (s : Same H H') : RowsV H' v rows := by
  obtain ⟨a, rs, e, h1, h2⟩ := h
  exact ⟨a, rs, e, h1.imp (s _ _) (s _ _), paired_imp (fun _ _ h => h.same s) h2⟩
theorem RowsV.keep {p : Addr} {H H' : Hp} {v : V} {rows : List (List (List Int × Int))} (h : RowsV H v rows) (h1 : ∀ xs, H p ≠ some (.tup xs)) (h2 : ∀ xs, H p ≠ some (.lst xs)) (k : KeepT p H H') : RowsV H' v rows := by
  obtain ⟨a, rs, e, h3, h4⟩ := h
  refine ⟨a, rs, e, ?_, paired_imp (fun _ _ h => h.keep h1 h2 k) h4⟩
  rcases h3 with h | h
  · exact .inl (k _ _ (fun z => h2 _ (by rw [← z]; exact h)) tbl_ne_lst h)
  · exact .inr (k _ _ (fun z => h1 _ (by rw [← z]; exact h)) tbl_ne_tup h)
theorem RowsV.inD {H : Hp} {v : V} {rows : List (List (List Int × Int))} (h : RowsV H v rows) : InD H v (rowsD rows) := by
  obtain ⟨a, rs, rfl, h1, h2⟩ := h
  exact .seq h1 (inAll_by (R := TermsV H) (f := polyD) (fun _ _ h => TermsV.inD h) h2)
def spArR (K : PySem.W.Frag) : Sp := fun vs H Q _ => ∃ (m : Nat) (v : V) (rows : List (List (List Int × Int))), vs = [.int (m : Int), v] ∧ m ≤ 3 ∧ RowsV H v rows ∧ Paired (fun ts c => GoodP c ts) rows (chs m) ∧ ∀ H', Same H H' → Q (.bl true) H'
section
variable {P : Program} {w : World} {K : PySem.W.Frag} {mg : Str → Option Value} {base : Heap} {f f1 f2 f3 : Addr} {fd fd1 fd2 fd3 : FuncData}
theorem ok_fixS (D_fixed : Df K mg "fixed" sFix f fd ["value"]) (T : Bn mg) : ∀ n, FnOk P w K mg base CX0 n f fd ["value"] (spFixS n) := by
  intro n
  induction n with
  | zero => exact ⟨fun vs H Q E ⟨v, d, _, _, h, _⟩ => absurd h (Nat.not_lt_zero _), fun A outer s H args us vs Q E _ _ _ _ ⟨v, d, _, _, h, _⟩ => absurd h (Nat.not_lt_zero _)⟩
  | succ n G_fixed =>
    refine D_fixed.F.ok scFix (fun vs H Q E h => ?_) (fun cdv A outer sc0 H vs Q E hr h => ?_)
    · obtain ⟨v, d, rfl, _⟩ := h
      rfl
    obtain ⟨v, d, rfl, hd, hn, hz, q⟩ := h
    refine ⟨_, (pss_cons (ps_if (pt_not (pt_val (pe_callB call_isiT (by rfl) T.b_isinstance (by decide +kernel) (pa_cons (pv 0) (pa_cons (pe_tup (pa_cons (pe_bltn (v := .ty "list") (u := .type "list") (by rfl) T.b_list (by decide +kernel) rfl) (pa_cons (pe_bltn (v := .ty "tuple") (u := .type "tuple") (by rfl) T.b_tuple (by decide +kernel) rfl) pa_nil))) pa_nil))))) (pss_one (ps_ret (pv 0))) pss_nil)
      (pss_cons (ps_set (i := 1) scFix.nd rfl (.inl rfl) (pe_lst pa_nil))
      (pss_cons (ps_for PassesOwn.never rfl (pi_seq (pv 0)) (pg_name (i := 2) scFix.nd rfl (.inl rfl))
        (pss_one (ps_expr (pe_bm PySem.F.plainAttrs_list PySem.F.slot_list_append PySem.F.type_list_append mt_append (pv 1) (pa_cons (pe_cd D_fixed G_fixed hr (Nat.le_refl _) (pa_cons (pv 2) pa_nil)) pa_nil)))))
      (pss_one (ps_ret (pe_callTy call_tuple_of (by rfl) T.b_tuple (by decide +kernel) (pa_cons (pv 1) pa_nil))))))), ?_⟩
    refine ⟨_, rfl, (by show 2 ≤ sizeLine; decide), fun tp htp => ?_⟩
    have s1 := new_same (o := .tup [.ty "list", .ty "tuple"]) htp
    cases hd with
    | int i =>
      refine ⟨.int i, tp, _, _, [.type "list", .type "tuple"], _, rfl, upd_same, .cons (.ty _) (.cons (.ty _) .nil), (HasTy.int i (K := K) (H := _)).1, kit_lt (HasTy.int i (K := K) (H := H)).2, _, rfl, ?_⟩
      exact iteT ⟨_, rfl, q _ _ s1 (.int i)⟩
    | @seq a xs ds hx ha =>
      have ty : ∃ n, HasTy K H (.ref a) n ∧ (n == "list" || n == "tuple") = true := by
        rcases hx with h | h
        · exact ⟨_, HasTy.lst h, rfl⟩
        · exact ⟨_, HasTy.tup h, rfl⟩
      obtain ⟨nm, ty, tb⟩ := ty
      refine ⟨.ref a, tp, _, _, [.type "list", .type "tuple"], _, rfl, upd_same, .cons (.ty _) (.cons (.ty _) .nil), tyx_same ty.1 s1, kit_lt ty.2, _, rfl, ?_⟩
      rw [tb]
      generalize L2.upd H tp (.tup [.ty "list", .ty "tuple"]) = H1 at s1 ⊢
      refine iteF ⟨Nat.zero_le _, fun L hL => ?_⟩
      have hlt : dpAll ds < n := Nat.lt_of_succ_lt_succ hn
      have hzs : szAll ds ≤ 100000 := Nat.le_trans (Nat.le_succ _) hz
      have L0 : H L = none := s1.free hL
      have s2 : Same H (L2.upd H1 L (.lst [])) := same_put s1 L0
      have hl2 : (L2.upd H1 L (.lst [])) L = some (.lst []) := upd_same
      generalize (L2.upd H1 L (.lst [])) = H2 at s2 hl2 ⊢
      obtain ⟨hlen, hget⟩ := inAll_get ha
      have dl := szAll_len ds
      refine ⟨_, rfl, a, xs, rfl, SqX.of (hx.imp (s2 _ _) (s2 _ _)), fun J G wk hGG => ?_⟩
      refine for_it wk (fun k σ G4 => ∃ (v2 : Option V) (ys : List V), σ = [some (.ref a), some (.ref L), v2] ∧ Same H G4 ∧ G4 L = some (.lst ys) ∧ ys.length = k ∧ TkAll G4 ys (ds.take k)) ?_ ?_ ?_ ?_
      · exact ⟨none, [], rfl, s2, hl2, rfl, .nil⟩
      · rintro k σ G4 _ ⟨_, _, _, s4, _⟩
        exact hGG G4 fun o h => by
          rcases hx with hx | hx
          · cases Option.some.inj ((s2 _ _ hx).symm.trans h)
            exact s4 _ _ hx
          · cases Option.some.inj ((s2 _ _ hx).symm.trans h)
            exact s4 _ _ hx
      · rintro k x σ G4 G5 hk ⟨v2, ys, rfl, s4, hl4, hyl, hys⟩ ⟨rfl, hxk⟩
        obtain ⟨d', hd1, hd2⟩ := hget k x hxk
        have hdm : dpD d' < n := Nat.lt_of_le_of_lt (dpAll_le (mem_get hd1)) hlt
        have hds : szD d' ≤ 100000 := Nat.le_trans (szAll_le (mem_get hd1)) hzs
        have hxl : k < xs.length := hk
        refine ⟨_, rfl, .inl ⟨rfl, _, SqL.of hl4⟩, _, rfl, x, d', rfl, hd2.same s4, hdm, hds, fun v' G6 s6 hv' => ?_⟩
        have hl6 := s6 _ _ hl4
        have kp : ∀ a xs, G6 a = some (.tup xs) → (L2.upd G6 L (.lst (ys ++ [v']))) a = some (.tup xs) := fun a xs h => by
          rw [upd_ne fun z => ?_]
          · exact h
          · subst z
            rw [hl6] at h
            cases h
        refine ⟨L, ys, _, rfl, rfl, hl6, small_le (by omega), ?_⟩
        refine ⟨_, ys ++ [v'], rfl, same_put (s4.trans s6) L0, upd_same, by rw [List.length_append, hyl]; rfl, ?_⟩
        rw [List.take_succ, hd1]
        exact tkAll_snoc (hys.keep fun a xs h => kp _ _ (s6 _ _ h)) (hv'.keep kp)
      · rintro σ G4 ⟨v2, ys, rfl, s4, hl4, hyl, hys⟩
        rw [hlen, List.take_length] at hys
        refine ⟨_, rfl, L, ys, rfl, .inl ⟨SqL.of hl4, fun p hp => q (.ref p) _ (s4.trans (same_new hp)) ?_⟩⟩
        exact .tup upd_same (hys.keep fun a xs h => same_new hp _ _ h)
theorem ok_arr (F : Fun K "are_rows" "are_rows" sArR f fd) (T : Bn mg) (D_choices : Df K mg "choices" sChs f1 fd1 ["many"]) (G_choices : FnOk P w K mg base CX0 4 f1 fd1 ["many"] spChs) (D_is_polynomial : Df K mg "is_polynomial" sPoly f2 fd2 ["many", "choice", "value"]) (G_is_polynomial : FnOk P w K mg base CX0 5 f2 fd2 ["many", "choice", "value"] (spPoly K)) : FnOk P w K mg base CX0 6 f fd ["many", "value"] (spArR K) := by
  refine F.ok scArR (fun vs H Q E h => ?_) (fun cdv A outer s H vs Q E hr h => ?_)
  · obtain ⟨m, v, rows, rfl, _⟩ := h
    rfl
  obtain ⟨m, _, rows, rfl, hm, ⟨a, rs, rfl, ha, hrs⟩, hg, q⟩ := h
  refine ⟨_, (pss_cons (ps_if (PW.pt (pw_or (pt_not (pt_val (pe_callB call_isiT (by rfl) T.b_isinstance (by decide +kernel) (pa_cons (pv 1) (pa_cons (pe_tup (pa_cons (pe_bltn (v := .ty "list") (u := .type "list") (by rfl) T.b_list (by decide +kernel) rfl) (pa_cons (pe_bltn (v := .ty "tuple") (u := .type "tuple") (by rfl) T.b_tuple (by decide +kernel) rfl) pa_nil))) pa_nil))))) (pw_or1 (pt_cmpR op_ne (pe_callB call_len_seq (by rfl) T.b_len (by decide +kernel) (pa_cons (pv 1) pa_nil)) (pe_callB call_len_seq (by rfl) T.b_len (by decide +kernel) (pa_cons (pe_cd D_choices G_choices hr (by decide) (pa_cons (pv 0) pa_nil)) pa_nil)) (nomark _))))) (pss_one (ps_ret pe_bl)) pss_nil)
      (pss_one (ps_ret (pe_callB (cr_all rfl) (by rfl) T.b_all (by decide +kernel) (pa_cons (pe_lc (own := [("choice", 2), ("row", 3)]) (g := (gTup K 2 (gCons (gName 2) (gCons (gName 3) gNil)))) (by rfl) scArR.nd (pi_zipX rfl T.b_zip (pa_cons (pe_cd D_choices G_choices hr (by decide) (pa_cons (pv 0) pa_nil)) (pa_cons (pv 1) pa_nil))) (blkOk_by (own := [("choice", 2), ("row", 3)]) (N := ["many", "value", "choice", "row"]) (sc := defScope sArR) (by decide +kernel)) (fun _ _ _ _ _ => (pg_tup (by rfl) (pgs_cons (pg_name (i := 2) scArR.nd rfl (.inl rfl)) (pgs_cons (pg_name (i := 3) scArR.nd rfl (.inl rfl)) pgs_nil)))) (fun _ _ _ _ _ => pts_nil) (fun _ _ _ _ _ => (pe_cd D_is_polynomial G_is_polynomial hr (by decide) (pa_cons (pv 0) (pa_cons (pv 2) (pa_cons (pv 3) pa_nil)))))) pa_nil))))), ?_⟩
  obtain ⟨c8, _, cok⟩ := chs_ok m hm
  have lrs := TG.paired_len hrs
  have lrw := TG.paired_len hg
  have ty : ∃ n, HasTy K H (.ref a) n ∧ (n == "list" || n == "tuple") = true := by
    rcases ha with h | h
    · exact ⟨_, HasTy.lst h, rfl⟩
    · exact ⟨_, HasTy.tup h, rfl⟩
  obtain ⟨nm, ty, tb⟩ := ty
  refine ⟨_, rfl, (by show 2 ≤ sizeLine; decide), fun tp htp => ?_⟩
  have s1 := new_same (o := .tup [.ty "list", .ty "tuple"]) htp
  refine ⟨.ref a, tp, _, _, [.type "list", .type "tuple"], _, rfl, upd_same, .cons (.ty _) (.cons (.ty _) .nil), tyx_same ty.1 s1, kit_lt ty.2, _, rfl, ?_⟩
  rw [tb]
  generalize L2.upd H tp (.tup [.ty "list", .ty "tuple"]) = H1 at s1 ⊢
  refine iteF ?_
  refine ⟨_, rfl, a, rs, rfl, (ha.imp (s1 _ _) (s1 _ _)).imp SqL.of SqT.of, _, rfl, m, rfl, hm, fun p1 rs1 H2 s2 h2 pp2 => ⟨p1, rs1, rfl, .inr (SqT.of h2), rfl, _, rfl, ?_⟩⟩
  have l1 := TG.paired_len pp2
  rw [show (!decide (V.int (rs.length : Int) = V.int (rs1.length : Int))) = false from by rw [decide_eq_true (congrArg V.int (by omega))]; rfl]
  refine iteF ?_
  refine ⟨_, rfl, m, rfl, hm, fun p2 rs2 H3 s3 h3 pp3 => ?_⟩
  have s13 := (s1.trans s2).trans s3
  have l2 := TG.paired_len pp3
  refine ⟨_, rfl, p2, a, rs2, rs, rfl, SqX.of (.inr h3), SqX.of (ha.imp (s13 _ _) (s13 _ _)), fun J GG wk hGG D hD => ?_⟩
  refine walk_in wk (fun i G => Same H3 G ∧ G D = some (.lst ((List.replicate i true).map V.bl))) ?_ (fun i G _ h => hGG G (fun o ho => h.1 _ _ ho) fun o ho => h.1 _ _ ho) ?_ ?_
  · exact ⟨new_same hD, upd_same⟩
  · rintro i x G3 G4 hi ⟨s6, h6⟩ ⟨t0, x1, y1, rfl, ht0, rfl, e1, e2⟩
    obtain ⟨c, g1, q1⟩ := TG.paired_get pp3 e1
    obtain ⟨ts, g2, q2⟩ := TG.paired_get hrs e2
    obtain ⟨c', g3, q3⟩ := TG.paired_get hg g2
    rw [g1] at g3
    cases g3
    have cm := List.mem_of_getElem? g1
    obtain ⟨cl, c01⟩ := cok c cm
    have s7 := new_same (o := .tup [x1, y1]) ht0
    obtain ⟨ca, rfl, hca⟩ := (q1.same s6).same s7
    obtain ⟨pv, hpv, tv⟩ := terms_poly (K := K) (c := c) (by omega) (((q2.same s13).same s6).same s7) q3
    refine ⟨t0, _, rfl, SqT.of upd_same, rfl, _, _, rfl, _, _, rfl, rfl, rfl, _, rfl, _, rfl, _, rfl, .ref ca, y1, c, pv, by rw [cl]; rfl, ⟨ca, rfl, .inr hca⟩, ⟨c01, by omega⟩, hpv, fun G5 s8 => ?_⟩
    rw [tv]
    have s78 := s7.trans s8
    refine ⟨_, s78 _ _ h6, small1000 (by rw [List.length_map, List.length_replicate]; omega), same_put (s6.trans s78) hD, ?_⟩
    rw [upd_same, List.replicate_succ', List.map_append]
    rfl
  · rintro G ⟨s6, h6⟩
    refine ⟨D, _, rfl, SqL.of h6, ?_⟩
    rw [show ((List.replicate (min rs2.length rs.length) true).all id) = true from by rw [List.all_eq_true]; intro b hb; rw [List.eq_of_mem_replicate hb]; rfl]
    exact q G (s13.trans s6)
/-- a table's making -/
def spTbI (C : Addr) : Sp := fun vs H Q _ => ∃ (p dx : Addr) (m : Nat) (v : V) (rows : List (List (List Int × Int))), vs = [.ref p, .int (m : Int), v] ∧ H p = some (.ins C dx []) ∧ m ≤ 3 ∧ RowsV H v rows ∧ Paired (fun ts c => GoodP c ts) rows (chs m) ∧
  ∀ (H' : Hp), (∀ b o, b ≠ p → H b = some o → H' b = some o) → TabAt H' C p m rows → Q .non H'
theorem ok_tbI {C fI fA : Addr} (F : Fun K "__init__" "Table.__init__" sTbI f fd) (T : Bn mg) (Z : TabC K mg C fI fA) (D_check_many : Df K mg "check_many" sCM f1 fd1 ["many"]) (G_check_many : FnOk P w K mg base CX0 3 f1 fd1 ["many"] spCM)
    (D_are_rows : Df K mg "are_rows" sArR f2 fd2 ["many", "value"]) (G_are_rows : FnOk P w K mg base CX0 6 f2 fd2 ["many", "value"] (spArR K)) (D_fixed : Df K mg "fixed" sFix f3 fd3 ["value"]) (G_fixed : FnOk P w K mg base CX0 5 f3 fd3 ["value"] (spFixS 5)) : FnOk P w K mg base CX0 7 f fd ["self", "many", "rows"] (spTbI C) := by
  refine F.ok scTbI (fun vs H Q E h => ?_) (fun cdv A outer s H vs Q E hr h => ?_)
  · obtain ⟨p, dx, m, v, rows, rfl, _⟩ := h
    rfl
  obtain ⟨p, dx, m, v, rows, rfl, hp, hm, hv, hg, q⟩ := h
  obtain ⟨c8, _, cok⟩ := chs_ok m hm
  refine ⟨_, (pss_cons (ps_expr (pe_cd D_check_many G_check_many hr (by decide) (pa_cons (pv 1) pa_nil)))
      (pss_cons (ps_if (pt_not (pt_val (pe_cd D_are_rows G_are_rows hr (by decide) (pa_cons (pv 1) (pa_cons (pv 2) pa_nil))))) (pss_one ps_never) pss_nil)
      (pss_cons (ps_fld (pv 0) (pv 1) rfl)
      (pss_one (ps_fld (pv 0) (pe_cd D_fixed G_fixed hr (by decide) (pa_cons (pv 2) pa_nil)) rfl))))), ?_⟩
  refine ⟨_, rfl, m, rfl, hm, ?_⟩
  refine ⟨_, rfl, _, rfl, m, v, rows, rfl, hm, hv, hg, fun H1 s1 => ⟨true, rfl, iteF ?_⟩⟩
  have hp1 := s1 _ _ hp
  obtain ⟨n1, n2⟩ := ins_ne hp1
  refine ⟨_, rfl, _, rfl, p, C, dx, [], rfl, hp1, Z.cl, Z.nM, (by show 0 < 1000; decide), ?_⟩
  rw [show putF ("many" : Str) (V.int (m : Int)) [] = [(("many" : Str), V.int (m : Int))] from rfl]
  have hv2 : RowsV (L2.upd H1 p (.ins C dx [("many", .int (m : Int))])) v rows := (hv.same s1).keep n1 n2 fun b o hb _ e => by rw [upd_ne hb]; exact e
  have k1 : ∀ b o, b ≠ p → H b = some o → (L2.upd H1 p (.ins C dx [("many", .int (m : Int))])) b = some o := fun b o hb e => by rw [upd_ne hb]; exact s1 _ _ e
  have hp2 : (L2.upd H1 p (.ins C dx [("many", .int (m : Int))])) p = some (.ins C dx [("many", .int (m : Int))]) := upd_same
  generalize L2.upd H1 p (.ins C dx [("many", .int (m : Int))]) = H2 at hv2 k1 hp2 ⊢
  have lrw := TG.paired_len hg
  obtain ⟨d1, d2⟩ := rowsD_dp (rows := rows) (by omega) fun ts hts => by
    obtain ⟨j, hj⟩ := List.mem_iff_getElem?.mp hts
    obtain ⟨c, hc, g⟩ := TG.paired_get hg hj
    have cl := (cok c (List.mem_of_getElem? hc)).1
    exact ⟨g.1, fun t ht => by rw [(g.2.1 t ht).1]; omega⟩
  refine ⟨_, rfl, v, rowsD rows, rfl, hv2.inD, d1, d2, fun v' H3 s3 tk => ?_⟩
  obtain ⟨r, rs, rfl, hr3, prs⟩ := tk_rows tk
  have hp3 := s3 _ _ hp2
  refine ⟨_, rfl, p, C, dx, _, rfl, hp3, Z.cl, Z.nR, (by show 1 < 1000; decide), ?_⟩
  rw [show putF ("rows" : Str) (V.ref r) [(("many" : Str), V.int (m : Int))] = [(("many" : Str), V.int (m : Int)), (("rows" : Str), V.ref r)] from by unfold putF; rfl]
  obtain ⟨n3, n4⟩ := ins_ne hp3
  have kT : KeepT p H3 (L2.upd H3 p (.ins C dx [("many", .int (m : Int)), ("rows", .ref r)])) := fun b o hb _ e => by rw [upd_ne hb]; exact e
  exact q _ (fun b o hb e => by rw [upd_ne hb]; exact s3 _ _ (k1 b o hb e)) ⟨dx, r, rs, upd_same, kT _ _ (fun z => n3 _ (by rw [← z]; exact hr3)) tbl_ne_tup hr3, paired_imp (fun _ _ h => h.keep n3 kT) prs⟩
end
end TF52
namespace TF52
open PySem PySem.Spec L2 TG TA
open PyProof.Rows hiding St
/-! ### a table at numbers -/
abbrev sTbA : Stmt := inClass (top 59) 4
theorem scTbA : FnScope ["self", "numbers"] ["self", "numbers"] (defScope sTbA) := ⟨rfl, rfl, rfl, by decide +kernel, rfl, by decide +kernel, by decide +kernel⟩
/-- the sign that a number leaves -/
def oneN (n : Int) : Int := if n = 0 then 0 else 1
/-- the rows have powers of at most k, shares of at most 2 ** b -/
def RowsB (k b : Nat) (rows : List (List (List Int × Int))) : Prop := ∀ ts ∈ rows, ∀ t ∈ ts, (∀ p ∈ t.1, p ≤ (k : Int)) ∧ t.2 ≤ 2 ^ b
theorem bits_at : ∀ (c : List Int), c.length ≤ 3 → (∀ s ∈ c, s = 0 ∨ s = 1) → (chs c.length)[(bitsN 0 c).toNat]? = some c ∧ 0 ≤ bitsN 0 c
  | [], _, _ => ⟨rfl, by decide⟩
  | [x], _, h => by
    rcases h x (by simp) with rfl | rfl <;> exact ⟨rfl, by decide⟩
  | [x, y], _, h => by
    rcases h x (by simp) with rfl | rfl <;> rcases h y (by simp) with rfl | rfl <;> exact ⟨rfl, by decide⟩
  | [x, y, z], _, h => by
    rcases h x (by simp) with rfl | rfl <;> rcases h y (by simp) with rfl | rfl <;> rcases h z (by simp) with rfl | rfl <;> exact ⟨rfl, by decide⟩
  | _ :: _ :: _ :: _ :: _, h, _ => absurd h (by simp)
def spTbA (C : Addr) : Sp := fun vs H Q _ => ∃ (T : Addr) (u : V) (m : Nat) (rows : List (List (List Int × Int))) (xs : List Int) (e k b : Nat), vs = [.ref T, u] ∧ TabAt H C T m rows ∧ m ≤ 3 ∧ SeqI H u xs ∧ xs.length = m ∧ Paired (fun ts c => GoodP c ts) rows (chs m) ∧
  RowsB k b rows ∧ b ≤ 100000 ∧ e * k ≤ 10000 ∧ (e ≤ 10000 ∧ k ≤ 10000) ∧ (∀ x ∈ xs, 0 ≤ x ∧ x ≤ 2 ^ e) ∧ ∀ ts H', Same H H' → rows[(bitsN 0 (xs.map oneN)).toNat]? = some ts → Q (.int (wvT xs ts)) H'
section
variable {P : Program} {w : World} {K : PySem.W.Frag} {mg : Str → Option Value} {base : Heap} {f f1 f2 f3 f4 : Addr} {fd fd1 fd2 fd3 fd4 : FuncData}
theorem ok_tbA {C fI CB : Addr} (F : Fun K "at" "Table.at" sTbA f fd) (T : Bn mg) (Z : TabC K mg C fI f) (D_are_numbers : Df K mg "are_numbers" sNums f1 fd1 ["value"]) (G_are_numbers : FnOk P w K mg base CX0 3 f1 fd1 ["value"] (spNums K))
    (D_choice_of : Df K mg "choice_of" sChO f2 fd2 ["numbers"]) (G_choice_of : FnOk P w K mg base (L2.CX P w) 5 f2 fd2 ["numbers"] (spChO K CB)) (D_choice_number : Df K mg "choice_number" sChN f3 fd3 ["choice"]) (G_choice_number : FnOk P w K mg base CX0 1 f3 fd3 ["choice"] spChN)
    (D_worth_at : Df K mg "worth_at" sWrA f4 fd4 ["terms", "numbers"]) (G_worth_at : FnOk P w K mg base CX0 6 f4 fd4 ["terms", "numbers"] spWrA) : FnOk P w K mg base CX0 7 f fd ["self", "numbers"] (spTbA C) := by
  refine F.ok scTbA (fun vs H Q E h => ?_) (fun cdv A outer s H vs Q E hr h => ?_)
  · obtain ⟨p, u, m, rows, xs, e, k, b, rfl, _⟩ := h
    rfl
  obtain ⟨p, _, m, rows, xs, e, k, b, rfl, ⟨dx, r, rs, hp, hrr, prs⟩, hm, ⟨a, rfl, ha⟩, lx, hg, hB, hb, hek, hk, hx, q⟩ := h
  refine ⟨_, (pss_cons (ps_if (PW.pt (pw_or (pt_not (pt_val (pe_cd D_are_numbers G_are_numbers hr (by decide) (pa_cons (pv 1) pa_nil)))) (pw_or1 (pt_cmpR op_ne (pe_callB call_len_seq (by rfl) T.b_len (by decide +kernel) (pa_cons (pv 1) pa_nil)) (pe_fld (pv 0) (by rfl)) (nomark _))))) (pss_one ps_never) pss_nil)
      (pss_one (ps_ret (pe_cd D_worth_at G_worth_at hr (by decide) (pa_cons (pe_ix ix_tup (pe_fld (pv 0) (by rfl)) (pe_cd D_choice_number G_choice_number hr (by decide) (pa_cons (pe_cdL D_choice_of G_choice_of hr (by decide) (pa_cons (pv 1) pa_nil)) pa_nil)) (fun _ _ => rfl)) (pa_cons (pv 1) pa_nil)))))), ?_⟩
  have two : ∃ n, HasTy K H (.ref a) n ∧ ((n = "list" ∧ H a = some (.lst (xs.map V.int))) ∨ (n = "tuple" ∧ H a = some (.tup (xs.map V.int)))) := by
    rcases ha with h | h
    · exact ⟨_, HasTy.lst h, .inl ⟨rfl, h⟩⟩
    · exact ⟨_, HasTy.tup h, .inr ⟨rfl, h⟩⟩
  obtain ⟨n, hn, hor⟩ := two
  have nv : (xs.map V.int).all numV = true := by
    rw [List.all_eq_true]
    intro x hx0
    obtain ⟨i, hi, rfl⟩ := List.mem_map.mp hx0
    show (decide ((0 : Int) ≤ i) && true) = true
    rw [decide_eq_true (hx i hi).1]
    rfl
  refine ⟨_, rfl, .ref a, n, rfl, hn, .inr ⟨a, xs.map V.int, rfl, hor, (fun x hx0 => by
    obtain ⟨i, _, rfl⟩ := List.mem_map.mp hx0
    exact any_intV i H), by rw [List.length_map]; omega, fun H1 s1 => ?_⟩⟩
  rw [nv]
  refine ⟨_, rfl, iteF ?_⟩
  have hp1 := s1 _ _ hp
  have ha1 := ha.imp (s1 _ _) (s1 _ _)
  refine ⟨_, rfl, a, _, rfl, ha1.imp SqL.of SqT.of, _, rfl, p, C, dx, _, _, rfl, hp1, Z.cl, Z.nM, rfl, rfl, _, rfl, ?_⟩
  rw [show (!decide (V.int ((xs.map V.int).length : Int) = V.int (m : Int))) = false from by rw [List.length_map, lx, decide_eq_true rfl]; rfl]
  refine iteF ?_
  have c01 : ∀ s ∈ xs.map oneN, s = 0 ∨ s = 1 := fun s hs => by
    obtain ⟨x, _, rfl⟩ := List.mem_map.mp hs
    unfold oneN
    split
    · exact .inl rfl
    · exact .inr rfl
  obtain ⟨b1, b0⟩ := bits_at (xs.map oneN) (by rw [List.length_map, lx]; exact hm) c01
  rw [List.length_map, lx] at b1
  have ib := lt_get b1
  have lrw := TG.paired_len hg
  have lrs := TG.paired_len prs
  have rowAt : ∃ ts, rows[(bitsN 0 (xs.map oneN)).toNat]? = some ts := ⟨_, List.getElem?_eq_getElem (by omega)⟩
  obtain ⟨ts, hts⟩ := rowAt
  obtain ⟨c', hc', gp⟩ := TG.paired_get hg hts
  rw [b1] at hc'
  cases hc'
  have rsAt : ∃ y, rs[(bitsN 0 (xs.map oneN)).toNat]? = some y := ⟨_, List.getElem?_eq_getElem (by omega)⟩
  obtain ⟨y, hy⟩ := rsAt
  obtain ⟨ts', hts', ty⟩ := TG.paired_get prs hy
  rw [hts] at hts'
  cases hts'
  refine ⟨_, rfl, p, C, dx, _, _, rfl, hp1, Z.cl, Z.nR, rfl, _, rfl, .ref a, some (xs.map V.int), rfl, rv_intsV ha1 (by omega), ?_⟩
  rw [if_pos (show numsB (some (xs.map V.int)) = true from by
    show ((xs.map V.int).all numV && decide ((xs.map V.int).length ≤ 3)) = true
    rw [nv, decide_eq_true (by rw [List.length_map, lx]; exact hm)]
    rfl)]
  intro v' H2 s2 hv'
  have hv' : TupAt H2 v' (xs.map oneN) := by
    have e : ((some (xs.map V.int)).getD []).map oneI = xs.map oneN := by
      show (xs.map V.int).map oneI = _
      rw [List.map_map]
      rfl
    rw [e] at hv'
    exact hv'
  have s12 := s1.trans s2
  have ei : bitsN 0 (xs.map oneN) = (((bitsN 0 (xs.map oneN)).toNat : Nat) : Int) := by omega
  refine ⟨v', _, rfl, hv', by rw [List.length_map, lx]; exact hm, c01, r, rs, bitsN 0 (xs.map oneN), y, rfl, rfl, SqT.of (s12 _ _ hrr), ?_, ?_⟩
  · rw [ei]
    exact atI_nat hy
  refine ⟨_, rfl, y, .ref a, ts, xs, e, k, b, rfl, TermsV.same ty.v s12, ⟨a, rfl, ha.imp (s12 _ _) (s12 _ _)⟩, by omega, gp.1, hb, hek, hk, hx, fun t ht => ?_, fun H3 s3 => q ts H3 (s12.trans s3) hts⟩
  obtain ⟨g1, g2, _, g4⟩ := gp.2.1 t ht
  obtain ⟨B1, B2⟩ := hB ts (List.mem_of_getElem? hts) t ht
  exact ⟨by rw [g1, List.length_map], fun p hp => ⟨(g2 p hp).1, B1 p hp⟩, by omega, B2⟩
/-- what is no list of so many numbers: refused -/
def spTbX (K : PySem.W.Frag) (C CB : Addr) : Sp := fun vs H Q E => ∃ (T : Addr) (u : V) (m : Nat) (rows : List (List (List Int × Int))) (r : Rw), vs = [.ref T, u] ∧ TabAt H C T m rows ∧ RowV K H u r ∧ (∀ xs, r = some xs → (xs.all numV && decide (xs.length = m)) = false) ∧ OutP CB H E "numbers"
theorem ok_tbX {C fI CB fE : Addr} {fdE : FuncData} (F : Fun K "at" "Table.at" sTbA f fd) (T : Bn mg) (Z : TabC K mg C fI f) (R : Er1 P w K mg base "BadNumber" CB fE fdE "part") (D_are_numbers : Df K mg "are_numbers" sNums f1 fd1 ["value"]) (G_are_numbers : FnOk P w K mg base CX0 3 f1 fd1 ["value"] (spNums K))
    (D_choice_of : Df K mg "choice_of" sChO f2 fd2 ["numbers"]) (G_choice_of : FnOk P w K mg base (L2.CX P w) 5 f2 fd2 ["numbers"] (spChO K CB)) (D_choice_number : Df K mg "choice_number" sChN f3 fd3 ["choice"]) (G_choice_number : FnOk P w K mg base CX0 1 f3 fd3 ["choice"] spChN)
    (D_worth_at : Df K mg "worth_at" sWrA f4 fd4 ["terms", "numbers"]) (G_worth_at : FnOk P w K mg base CX0 6 f4 fd4 ["terms", "numbers"] spWrA) : FnOk P w K mg base (L2.CX P w) 7 f fd ["self", "numbers"] (spTbX K C CB) := by
  refine F.okX scTbA (fun vs H Q E h => ?_) (fun cdv A outer s H vs Q E hr h => ?_)
  · obtain ⟨p, u, m, rows, r, rfl, _⟩ := h
    rfl
  obtain ⟨p, u, m, rows, rw_, rfl, ⟨dx, r, rs, hp, hrr, prs⟩, hu, hno, out⟩ := h
  refine ⟨_, (pss_cons (ps_if (PW.pt (pw_or (pt_not (pt_val (pe_cd D_are_numbers G_are_numbers hr (by decide) (pa_cons (pv 1) pa_nil)))) (pw_or1 (pt_cmpR op_ne (pe_callB call_len_seq (by rfl) T.b_len (by decide +kernel) (pa_cons (pv 1) pa_nil)) (pe_fld (pv 0) (by rfl)) (nomark _))))) (pss_one (ps_raise rfl (takes_of rfl rfl rfl rfl) (pmk_oex R.o R.i R.t R.G (hr.mono (by decide)) R.b .nil pass0 rfl R.m (pa_cons pe_str pa_nil)))) pss_nil)
      (pss_one (ps_ret (pe_cd D_worth_at G_worth_at hr (by decide) (pa_cons (pe_ix ix_tup (pe_fld (pv 0) (by rfl)) (pe_cd D_choice_number G_choice_number hr (by decide) (pa_cons (pe_callS G_choice_of (hr.mono (by decide)) rfl D_choice_of.m D_choice_of.F.kp D_choice_of.b (fun σ => passAt (W := fun cls d _ H => E cls d H) (takes_of rfl rfl rfl rfl) σ) (pa_cons (pv 1) pa_nil)) pa_nil)) (fun _ _ => rfl)) (pa_cons (pv 1) pa_nil)))))), ?_⟩
  cases rw_ with
  | none =>
    obtain ⟨n, hn, hb⟩ := hu.1
    obtain ⟨n1, n2⟩ := Bool.or_eq_false_iff.mp hb
    exact ⟨_, rfl, u, n, rfl, hn, .inl ⟨by simpa using n1, by simpa using n2, fun H1 s1 => ⟨_, rfl, iteT (iteT (out1 R _ _ _ s1 out))⟩⟩⟩
  | some xs =>
    obtain ⟨⟨a, rfl, ha, hl⟩, hx⟩ := hu
    have hl : xs.length ≤ 900 := hl
    have two : ∃ n, HasTy K H (.ref a) n ∧ ((n = "list" ∧ H a = some (.lst xs)) ∨ (n = "tuple" ∧ H a = some (.tup xs))) := by
      rcases ha with h | h
      · exact ⟨_, HasTy.lst h, .inl ⟨rfl, h⟩⟩
      · exact ⟨_, HasTy.tup h, .inr ⟨rfl, h⟩⟩
    obtain ⟨n, hn, hor⟩ := two
    refine ⟨_, rfl, .ref a, n, rfl, hn, .inr ⟨a, xs, rfl, hor, fun x h => hx xs rfl x h, by omega, fun H1 s1 => ?_⟩⟩
    cases hv : xs.all numV with
    | false => exact ⟨_, rfl, iteT (iteT (out1 R _ _ _ s1 out))⟩
    | true =>
      have hp1 := s1 _ _ hp
      refine ⟨_, rfl, iteF ⟨_, rfl, a, xs, rfl, (ha.imp (s1 _ _) (s1 _ _)).imp SqL.of SqT.of, _, rfl, p, C, dx, _, _, rfl, hp1, Z.cl, Z.nM, rfl, rfl, _, rfl, ?_⟩⟩
      have ne : xs.length ≠ m := fun e => by
        have z := hno xs rfl
        rw [hv, decide_eq_true e] at z
        cases z
      rw [show (!decide (V.int (xs.length : Int) = V.int (m : Int))) = true from by rw [decide_eq_false fun e => ne (by injection e with e; omega)]; rfl]
      exact iteT (out1 R _ _ _ s1 out)
end
end TF52
set_option maxHeartbeats 400000
/-! terms told by their worth at two numbers: digits, powers of places -/
namespace TG
open PySem PySem.Spec L2
open PyProof.Rows hiding St
/-- digits, the least first: what they are worth -/
def hornD (b : Int) : List Int → Int
  | [] => 0
  | d :: D => d + b * hornD b D
/-- the digits that are not nought, with their places -/
def plcs (k : Nat) : List Int → List (Int × Int)
  | [] => []
  | d :: D => if 0 < d then ((k : Int), d) :: plcs (k + 1) D else plcs (k + 1) D
def DigOk (b : Int) (D : List Int) : Prop := ∀ d ∈ D, 0 ≤ d ∧ d < b
theorem hornD_nn {b : Int} (hb : 2 ≤ b) : ∀ {D : List Int}, DigOk b D → 0 ≤ hornD b D
  | [], _ => Int.le_refl _
  | d :: D, h => by
    have h1 := h d List.mem_cons_self
    have h2 := hornD_nn hb (D := D) fun x hx => h x (List.mem_cons_of_mem _ hx)
    have : 0 ≤ b * hornD b D := Int.mul_nonneg (by omega) h2
    show 0 ≤ d + b * hornD b D
    omega
theorem hornD_div {b d : Int} {D : List Int} (hb : 2 ≤ b) (h : DigOk b (d :: D)) : hornD b (d :: D) / b = hornD b D ∧ hornD b (d :: D) % b = d := by
  have h1 := h d List.mem_cons_self
  have e : hornD b (d :: D) = d + b * hornD b D := rfl
  rw [e]
  constructor
  · rw [Int.add_mul_ediv_left _ _ (by omega), Int.ediv_eq_zero_of_lt h1.1 h1.2, Int.zero_add]
  · rw [Int.add_mul_emod_self_left, Int.emod_eq_of_lt h1.1 h1.2]
theorem hornD_zero {b : Int} (hb : 2 ≤ b) : ∀ {D : List Int} (k : Nat), DigOk b D → hornD b D = 0 → plcs k D = []
  | [], _, _, _ => rfl
  | d :: D, k, h, e => by
    have h1 := h d List.mem_cons_self
    have h2 : DigOk b D := fun x hx => h x (List.mem_cons_of_mem _ hx)
    have h3 := hornD_nn hb h2
    have e : d + b * hornD b D = 0 := e
    have h4 : 0 ≤ b * hornD b D := Int.mul_nonneg (by omega) h3
    have h5 : b * hornD b D = 0 := by omega
    have h6 : hornD b D = 0 := by
      rcases Int.mul_eq_zero.mp h5 with h | h
      · omega
      · exact h
    unfold plcs
    rw [if_neg (by omega)]
    exact hornD_zero hb _ h2 h6
theorem hornD_le {b : Int} (hb : 2 ≤ b) {d : Int} {D : List Int} (h : DigOk b (d :: D)) : hornD b D ≤ hornD b (d :: D) := by
  have h1 := h d List.mem_cons_self
  have h3 := hornD_nn hb (D := D) fun x hx => h x (List.mem_cons_of_mem _ hx)
  show hornD b D ≤ d + b * hornD b D
  have : 1 * hornD b D ≤ b * hornD b D := Int.mul_le_mul_of_nonneg_right (by omega) h3
  omega
theorem bits_mono {x y : Int} (h0 : 0 ≤ x) (h : x ≤ y) : Builtin.Int.intBits x ≤ Builtin.Int.intBits y := by
  refine bits_le ?_
  have hy : y.natAbs < 2 ^ Builtin.Int.intBits y := by
    unfold Builtin.Int.intBits
    by_cases e : y = 0
    · subst e
      decide
    · rw [if_neg (by simpa using e)]
      exact (Nat.log2_lt (by omega)).mp (Nat.lt_succ_self _)
  omega
/-- the powers that a place stands for, and what is left of it -/
def pwP : List Int → Int → Int → List Int × Int
  | [], pl, _ => ([], pl)
  | s :: c, pl, st => if s = 1 then (pl % st :: (pwP c (pl / st) st).1, (pwP c (pl / st) st).2) else (0 :: (pwP c pl st).1, (pwP c pl st).2)
theorem pwP_cons (s : Int) (c : List Int) (pl st : Int) : pwP (s :: c) pl st = if s = 1 then (pl % st :: (pwP c (pl / st) st).1, (pwP c (pl / st) st).2) else (0 :: (pwP c pl st).1, (pwP c pl st).2) := rfl
theorem pwP_len : ∀ (c : List Int) (pl st : Int), (pwP c pl st).1.length = c.length
  | [], _, _ => rfl
  | s :: c, pl, st => by
    rw [pwP_cons]
    split
    · show (pwP c (pl / st) st).1.length + 1 = c.length + 1
      rw [pwP_len]
    · show (pwP c pl st).1.length + 1 = c.length + 1
      rw [pwP_len]
theorem pwP_bd {st : Int} (hs : 1 ≤ st) : ∀ (c : List Int) (pl : Int), ∀ p ∈ (pwP c pl st).1, 0 ≤ p ∧ p < st
  | [], _, _, h => nomatch h
  | s :: c, pl, p, h => by
    rw [pwP_cons] at h
    split at h
    · rcases List.mem_cons.mp h with rfl | h
      · exact ⟨Int.emod_nonneg _ (by omega), Int.emod_lt_of_pos _ (by omega)⟩
      · exact pwP_bd hs c _ p h
    · rcases List.mem_cons.mp h with rfl | h
      · omega
      · exact pwP_bd hs c _ p h
theorem sum_bd {M : Int} : ∀ {l : List Int}, (∀ p ∈ l, 0 ≤ p ∧ p < M) → 0 ≤ l.sum ∧ l.sum ≤ l.length * M
  | [], _ => ⟨Int.le_refl _, by simp⟩
  | x :: l, h => by
    have h1 := h x List.mem_cons_self
    obtain ⟨i1, i2⟩ := sum_bd (l := l) fun y hy => h y (List.mem_cons_of_mem _ hy)
    rw [List.sum_cons, List.length_cons, Int.natCast_succ, Int.add_mul]
    omega
theorem plcs_bd {D : List Int} : ∀ {k : Nat} {q : Int × Int}, q ∈ plcs k D → (k : Int) ≤ q.1 ∧ q.1 < k + D.length ∧ 0 < q.2 ∧ q.2 ∈ D := by
  induction D with
  | nil => intro k q h; cases h
  | cons d D ih =>
    intro k q h
    unfold plcs at h
    have nx : q ∈ plcs (k + 1) D → (k : Int) ≤ q.1 ∧ q.1 < k + (d :: D).length ∧ 0 < q.2 ∧ q.2 ∈ d :: D := fun h => by
      obtain ⟨a, b, c, e⟩ := ih h
      rw [List.length_cons]
      exact ⟨by omega, by omega, c, List.mem_cons_of_mem _ e⟩
    split at h
    · rename_i h0
      rcases List.mem_cons.mp h with rfl | h
      · rw [List.length_cons]
        exact ⟨Int.le_refl _, by show (k : Int) < _; omega, h0, List.mem_cons_self⟩
      · exact nx h
    · exact nx h
theorem plcs_len : ∀ (D : List Int) (k : Nat), (plcs k D).length ≤ D.length
  | [], _ => Nat.le_refl _
  | d :: D, k => by
    have h := plcs_len D (k + 1)
    unfold plcs
    split
    · rw [List.length_cons, List.length_cons]
      omega
    · rw [List.length_cons]
      omega
/-- all places' powers -/
def tmsP (c : List Int) (st : Int) : List (Int × Int) → Option (List (List Int × Int))
  | [] => some []
  | (pl, d) :: r => if (pwP c pl st).2 = 0 then (tmsP c st r).map fun ts => ((pwP c pl st).1, d) :: ts else none
theorem tmsP_cons (c : List Int) (st : Int) (q : Int × Int) (r : List (Int × Int)) : tmsP c st (q :: r) = if (pwP c q.1 st).2 = 0 then (tmsP c st r).map fun ts => ((pwP c q.1 st).1, q.2) :: ts else none := rfl
/-- what terms are worth at 2, each sign's power doubled -/
def wor2 (ts : List (List Int × Int)) : Int := (ts.map fun t => t.2 * 2 ^ t.1.sum.toNat).sum
theorem wor2_snoc (ts : List (List Int × Int)) (t : List Int × Int) : wor2 (ts ++ [t]) = wor2 ts + t.2 * 2 ^ t.1.sum.toNat := by
  unfold wor2
  rw [List.map_append, List.sum_append, List.map_cons, List.map_nil, List.sum_cons, List.sum_nil, Int.add_zero]
/-- the terms that two values tell -/
def tldP (c : List Int) (v : Int) (D : List Int) : Option (List (List Int × Int)) :=
  match tmsP c (Builtin.Int.intBits v : Nat) (plcs 0 D) with
  | some ts => if wor2 ts = v then some ts else none
  | none => none
/-- a list of such pairs -/
def PairH (H : Hp) (e : V) (q : Int × Int) : Prop := ∃ b, e = .ref b ∧ H b = some (.tup [.int q.1, .int q.2])
theorem PairH.same {H H' : Hp} {e : V} {q : Int × Int} (h : PairH H e q) (s : Same H H') : PairH H' e q := by
  obtain ⟨b, h1, h2⟩ := h
  exact ⟨b, h1, s _ _ h2⟩
theorem pair_updL {H : Hp} {D : Addr} {xs ys : List V} {e : V} {q : Int × Int} (h : PairH H e q) (hD : H D = some (.lst xs)) : PairH (L2.upd H D (.lst ys)) e q := by
  obtain ⟨b, h1, h2⟩ := h
  refine ⟨b, h1, (upd_ne ?_).trans h2⟩
  rintro rfl
  rw [h2] at hD
  cases hD
def spDig : Sp := fun vs H Q _ => ∃ (v b : Int) (D : List Int), vs = [.int v, .int b] ∧ 2 ≤ b ∧ DigOk b D ∧ v = hornD b D ∧ D.length ≤ 900 ∧ Builtin.Int.intBits v ≤ 4000 ∧ ∀ (p : Addr) (rs : List V) (H' : Hp), Same H H' → H' p = some (.lst rs) → Paired (PairH H') rs (plcs 0 D) → Q (.ref p) H'
def spPwP : Sp := fun vs H Q _ => ∃ (a : Addr) (c : List Int) (pl st : Int), vs = [.ref a, .int pl, .int st] ∧ H a = some (.tup (c.map V.int)) ∧ c.length ≤ 3 ∧ 0 ≤ pl ∧ pl ≤ 1000000 ∧ 1 ≤ st ∧ st ≤ 1000000 ∧
  ((pwP c pl st).2 ≠ 0 → ∀ H', Same H H' → Q .non H') ∧ ∀ (u : V) (H' : Hp), (pwP c pl st).2 = 0 → Same H H' → TupAt H' u (pwP c pl st).1 → Q u H'
/-- terms in a new list -/
def NewT (H H' : Hp) (u : V) (ts : List (List Int × Int)) : Prop := (∃ p, u = .ref p ∧ H p = none) ∧ TermsV H' u ts
theorem NewT.updL {H H' : Hp} {u : V} {ts : List (List Int × Int)} {D : Addr} {xs ys zs : List V} (h : NewT H H' u ts) (h0 : H D = some (.lst zs)) (hD : H' D = some (.lst xs)) : TermsV (L2.upd H' D (.lst ys)) u ts := by
  obtain ⟨⟨p, rfl, hp⟩, a, es, e, h1, h2⟩ := h
  cases e
  have ne : p ≠ D := fun e => by
    rw [e, h0] at hp
    cases hp
  refine ⟨p, es, rfl, ?_, paired_imp (fun _ _ h => h.updL hD) h2⟩
  rw [upd_ne ne]
  exact h1
theorem TermsV.updL2 {H : Hp} {u : V} {ts : List (List Int × Int)} {D : Addr} {xs ys : List V} (h : TermsV H u ts) (hD : H D = some (.lst xs)) (hu : u ≠ .ref D) : TermsV (L2.upd H D (.lst ys)) u ts := by
  obtain ⟨a, es, rfl, h1, h2⟩ := h
  refine ⟨a, es, rfl, ?_, paired_imp (fun _ _ h => h.updL hD) h2⟩
  rw [upd_ne fun e => hu (by rw [e])]
  exact h1
def spTT : Sp := fun vs H Q _ => ∃ (a l : Addr) (c t : List Int), vs = [.ref a, .ref l] ∧ H a = some (.tup (c.map V.int)) ∧ H l = some (.lst (t.map V.int)) ∧ (∀ s ∈ c, s = 0 ∨ s = 1) ∧ c.length ≤ 3 ∧ OkT c t ∧
  ((∃ v, t = [v] ∧ ∀ (u : V) (H' : Hp), Same H H' → NewT H H' u (if 0 < v then [(c.map fun _ => 0, v)] else []) → Q u H') ∨
   (∃ v w D, t = [v, w] ∧ 1 ≤ c.sum.toNat ∧ 2 ≤ v ∧ DigOk (v + 1) D ∧ w = hornD (v + 1) D ∧ D.length ≤ 900 ∧ Builtin.Int.intBits w ≤ 4000 ∧
    (tldP c v D = none → ∀ H', Same H H' → Q .non H') ∧ ∀ (ts0 ts : List (List Int × Int)) (u : V) (H' : Hp), tldP c v D = some ts0 → ts.Perm ts0 → ts.Pairwise (fun s t => HT.lexLt t.1 s.1 = false) → Same H H' → NewT H H' u ts → Q u H'))
end TG
/-! sorted of a list of terms: tuples of a tuple of numbers and a number -/
namespace TG
open PySem PySem.Spec L2 PyProof.Rows PySem.W
theorem toks_ints_ne : ∀ {ps qs : List Int}, ps.length = qs.length → ps ≠ qs → PyData.eqvAll (ps.map PyData.int) (qs.map PyData.int) = false
  | [], [], _, h => absurd rfl h
  | [], _ :: _, h, _ => by cases h
  | _ :: _, [], h, _ => by cases h
  | x :: ps, y :: qs, h, hn => by
    rw [List.map_cons, List.map_cons, eqv_all_cons]
    by_cases e : x = y
    · subst e
      rw [toks_ints_ne (by simpa using h) fun z => hn (by rw [z]), Bool.and_false]
    · rw [show PyData.eqv (.int x) (.int y) = false from by simpa [PyData.eqv] using e, Bool.false_and]
theorem alike_ints : ∀ (ps qs : List Int), alikeAll (ps.map PyData.int) (qs.map PyData.int) = true
  | [], _ => by simp [alikeAll]
  | _ :: _, [] => by simp [alikeAll]
  | x :: ps, y :: qs => by
    rw [List.map_cons, List.map_cons, alikeAll, alike_ints ps qs]
    simp [alike]
theorem lt_ints : ∀ {ps qs : List Int}, ps.length = qs.length → PyProof.Rows.lexLt itemOrd (keyToksAll (ps.map PyData.int)) (keyToksAll (qs.map PyData.int)) = HT.lexLt ps qs
  | [], [], _ => by decide
  | [], _ :: _, h => by cases h
  | _ :: _, [], h => by cases h
  | x :: ps, y :: qs, h => by
    rw [List.map_cons, List.map_cons, HT.lexLt_cons]
    have al : alike (.int x) (.int y) = true := by simp [alike]
    by_cases e : x = y
    · rw [if_pos e, dataLt_all_yes al (by simpa [PyData.eqv] using e)]
      exact lt_ints (by simpa using h)
    · rw [if_neg e, dataLt_all_no al (by simpa [PyData.eqv] using e), dataLt_int]
theorem alike_term (s t : List Int × Int) : alike (termD s) (termD t) = true := by
  unfold termD intsD
  simp [alike, alikeAll, alike_ints]
theorem lt_term {s t : List Int × Int} (hl : s.1.length = t.1.length) (h : HT.lexLt s.1 t.1 = true) : dataLt (termD s) (termD t) = true := by
  have al : alike (intsD s.1) (intsD t.1) = true := by
    unfold intsD
    rw [alike]
    exact alike_ints _ _
  have ne : s.1 ≠ t.1 := fun e => by
    rw [e] at h
    have := NtL.swo_lexL (fun u : List Int => u)
    have irr : ∀ l : List Int, HT.lexLt l l = false := fun l => by
      induction l with
      | nil => rfl
      | cons x l ih => rw [HT.lexLt_cons, if_pos rfl, ih]
    rw [irr] at h
    cases h
  have nq : PyData.eqv (intsD s.1) (intsD t.1) = false := by
    unfold intsD
    rw [PyData.eqv]
    exact toks_ints_ne hl ne
  unfold termD
  rw [dataLt_tuple, dataLt_all_no al nq]
  unfold intsD
  rw [dataLt_tuple, lt_ints hl]
  exact h
theorem TermH.dp {K : PySem.W.Frag} {H : Hp} {e : V} {t : List Int × Int} (h : TermH H e t) : Dp K H e (termD t) := by
  obtain ⟨b, u, rfl, h1, h2⟩ := h
  exact .tup (SqT.of h1) (.cons (.tup (SqT.of h2) (dp_ints _)) (.cons (.int _) .nil))
theorem zip_snd {α β : Type} {R : α → β → Prop} : ∀ {xs : List α} {ys : List β}, Paired R xs ys → (xs.zip ys).map (·.2) = ys
  | _, _, .nil => rfl
  | _, _, .cons _ t => by rw [List.zip_cons_cons, List.map_cons, zip_snd t]
theorem zip_rel {α β : Type} {R : α → β → Prop} : ∀ {xs : List α} {ys : List β}, Paired R xs ys → ∀ q ∈ xs.zip ys, R q.1 q.2
  | _, _, .nil, q, h => nomatch h
  | _, _, .cons r t, q, h => by
    rw [List.zip_cons_cons] at h
    rcases List.mem_cons.mp h with rfl | h
    · exact r
    · exact zip_rel t q h
theorem paired_zip {α β : Type} {R : α → β → Prop} : ∀ {l : List (α × β)}, (∀ q ∈ l, R q.1 q.2) → Paired R (l.map (·.1)) (l.map (·.2))
  | [], _ => .nil
  | q :: l, h => .cons (h q List.mem_cons_self) (paired_zip fun x hx => h x (List.mem_cons_of_mem _ hx))
theorem each_zip2 {α β γ : Type} {R : α → β → Prop} {S : γ → α → Prop} {T : γ → (α × β) → Prop} : ∀ {xs : List α} {ys : List β} {us : List γ}, Paired R xs ys → EachIs S us xs → (∀ x y u, R x y → S u x → y ∈ ys → T u (x, y)) → EachIs T us (xs.zip ys)
  | _, _, _, .nil, .nil, _ => .nil
  | _, _, _, .cons r t, .cons a b, h => .cons (h _ _ _ r a List.mem_cons_self) (each_zip2 t b fun x y u h1 h2 h3 => h x y u h1 h2 (List.mem_cons_of_mem _ h3))
theorem each_map {α β γ : Type} {R : α → γ → Prop} (f : β → γ) : ∀ {us : List α} {bs : List β}, EachIs (fun u b => R u (f b)) us bs → EachIs R us (bs.map f)
  | _, _, .nil => .nil
  | _, _, .cons a t => .cons a (each_map f t)
theorem vals_each : ∀ {xs : List V} {us : List Value}, Vals xs us → EachIs (fun u x => RelV x u) us xs
  | _, _, .nil => .nil
  | _, _, .cons a t => .cons a (vals_each t)
theorem each_all {α β : Type} {P : α → β → Prop} {S : β → Prop} : ∀ {us : List α} {bs : List β}, EachIs (fun u b => P u b ∧ S b) us bs → ∀ b ∈ bs, True ∧ S b
  | _, _, .nil, _, h => nomatch h
  | _, _, .cons a t, b, h => by
    rcases List.mem_cons.mp h with rfl | h
    · exact ⟨trivial, a.2⟩
    · exact each_all t b h
theorem vals_of_each {γ : Type} {S : Value → V × γ → Prop} : ∀ {us : List Value} {bs : List (V × γ)}, EachIs (fun u b => RelV b.1 u ∧ S u b) us bs → Vals (bs.map (·.1)) us
  | _, _, .nil => .nil
  | _, _, .cons a t => .cons a.1 (vals_of_each t)
theorem ints_depth (l : List Int) : PyData.depthAll (l.map PyData.int) ≤ 1 := by
  induction l with
  | nil => simp [PyData.depthAll]
  | cons x l ih => simp [PyData.depthAll, PyData.depth]; omega
theorem term_depth (t : List Int × Int) : (termD t).depth ≤ 10 := by
  have h := ints_depth t.1
  unfold termD intsD
  simp [PyData.depth, PyData.depthAll]
  omega
/-- sorted(xs), xs a list of terms of so many powers each -/
def rSortTm (K : PySem.W.Frag) : List V → Hp → VK → Prop := fun vs H Q => ∃ (a : Addr) (xs : List V) (ts : List (List Int × Int)) (n : Nat), vs = [V.ref a] ∧ SqL K H a xs ∧ Paired (TermH H) xs ts ∧ (∀ t ∈ ts, t.1.length = n) ∧
  ∀ (ys : List V) (ts' : List (List Int × Int)) (p : Addr), ts'.Perm ts → ts'.Pairwise (fun s t => HT.lexLt t.1 s.1 = false) → Paired (TermH H) ys ts' → H p = none → Q (.ref p) (upd H p (.lst ys))
section
variable {X : Cx}
theorem cr_sortTm (hu : X.A.units + 64 < cLine) : CallR X (.builtin "sorted") (rSortTm X.K) := by
  intro pins s σ H vs us Q I r h
  obtain ⟨a, xs, ts, n, rfl, hs, hT, hn, q⟩ := h
  obtain ⟨its, rv, hl, hz⟩ := I.list hs
  rw [Vals.ref1 r]
  have kp : ∀ b o, s.heap.get? b = some o → (sortingHeap (copyHeap s.heap its) (s.heap.objs.size + 1) its).get? b = some o := fun b o e => sorting_copy_old e
  have J : Inv X pins σ H { s with heap := sortingHeap (copyHeap s.heap its) (s.heap.objs.size + 1) its, toks := s.toks } := I.kept (t' := s.toks) kp
  have E1 : EachIs (fun (u : Value) (x : V) => RelV x u) its xs := vals_each rv
  have E2 : EachIs (fun (u : Value) (b : V × (List Int × Int)) => RelV b.1 u ∧ TermH H b.1 b.2 ∧ b.2 ∈ ts) its (xs.zip ts) := each_zip2 hT E1 fun x y u h1 h2 h3 => ⟨h2, h1, h3⟩
  have al : AllAlike (ts.map termD) := fun d hd d' hd' => by
    obtain ⟨t, _, rfl⟩ := List.mem_map.mp hd
    obtain ⟨t', _, rfl⟩ := List.mem_map.mp hd'
    exact alike_term t t'
  have so : Sortable (ts.map termD) := .inl fun d hd => by
    obtain ⟨t, _, rfl⟩ := List.mem_map.mp hd
    exact ⟨_, _, rfl⟩
  have dep : ∀ d ∈ ts.map termD, X.A.in1.in1.units + d.depth < cLine := fun d hd => by
    obtain ⟨t, _, rfl⟩ := List.mem_map.mp hd
    have := term_depth t
    show X.A.units + 1 + 1 + (termD t).depth < cLine
    omega
  have rd : ∀ (u : Value) (b : V × (List Int × Int)), RelV b.1 u ∧ TermH H b.1 b.2 ∧ b.2 ∈ ts → ∃ as, Reads (sortingHeap (copyHeap s.heap its) (s.heap.objs.size + 1) its) u (termD b.2) as := fun u b h => Dp.reads J _ _ _ (TermH.dp h.2.1) h.1
  have E3 : EachIs (fun (u : Value) (d : PyData) => ∃ as, Reads (sortingHeap (copyHeap s.heap its) (s.heap.objs.size + 1) its) u d as) its (ts.map termD) := by
    have z := each_map (R := fun (u : Value) (d : PyData) => ∃ as, Reads (sortingHeap (copyHeap s.heap its) (s.heap.objs.size + 1) its) u d as) (fun b : V × (List Int × Int) => termD b.2) (E2.mono rd)
    rw [show (xs.zip ts).map (fun b => termD b.2) = ts.map termD from by rw [← zip_snd hT, List.map_map, zip_snd hT]; rfl] at z
    exact z
  have hk : EachIs (fun (u : Value) (b : V × (List Int × Int)) => (dataKind (sortingHeap (copyHeap s.heap its) (s.heap.objs.size + 1) its) (ts.map termD)).keyOf u = some (keyToks (termD b.2))) its (xs.zip ts) := E2.mono fun u b h => by
    obtain ⟨as, ra⟩ := rd u b h
    exact dataKind_some al (List.mem_map_of_mem h.2.2) ra
  have E4 := sortVals_each (rev := false) _ E2 hk
  refine sorted_vals hl.isList (κ := dataKind (sortingHeap (copyHeap s.heap its) (s.heap.objs.size + 1) its) (ts.map termD)) (SortsAt.data E3 al so dep) (by rw [← rv.length]; exact hz) ?_
  have pw := sort_pairwise (sortLe_total (dataKind (sortingHeap (copyHeap s.heap its) (s.heap.objs.size + 1) its) (ts.map termD)).toKeyOrd false fun b : V × (List Int × Int) => keyToks (termD b.2)) (xs.zip ts)
  have pm := List.mergeSort_perm (xs.zip ts) (sortLe (dataKind (sortingHeap (copyHeap s.heap its) (s.heap.objs.size + 1) its) (ts.map termD)).toKeyOrd false fun b : V × (List Int × Int) => keyToks (termD b.2))
  have pw2 : ((xs.zip ts).mergeSort (sortLe (dataKind (sortingHeap (copyHeap s.heap its) (s.heap.objs.size + 1) its) (ts.map termD)).toKeyOrd false fun b : V × (List Int × Int) => keyToks (termD b.2))).Pairwise (fun a b => dataLt (termD b.2) (termD a.2) = false) := pw.imp fun {x y} z => by
    have z : (!dataLt (termD y.2) (termD x.2)) = true := z
    simpa using z
  clear pw hk E3
  generalize (xs.zip ts).mergeSort (sortLe (dataKind (sortingHeap (copyHeap s.heap its) (s.heap.objs.size + 1) its) (ts.map termD)).toKeyOrd false fun b : V × (List Int × Int) => keyToks (termD b.2)) = bs at E4 pm pw2
  generalize sortVals (dataKind (sortingHeap (copyHeap s.heap its) (s.heap.objs.size + 1) its) (ts.map termD)) false its its = out at E4
  have rel := each_all E4
  have rvo : Vals (bs.map (·.1)) out := vals_of_each E4
  have hp : (bs.map (·.2)).Perm ts := by
    have z := pm.map (fun q : V × (List Int × Int) => q.2)
    rw [zip_snd hT] at z
    exact z
  obtain ⟨ep, he'⟩ := PyProof.Rows.sortedAll_at s.heap its out.toArray
  have hlen : (bs.map (·.1)).length ≤ sizeLine := by
    have l1 := hp.length_eq
    have l2 := TG.paired_len hT
    rw [List.length_map] at l1 ⊢
    omega
  refine ⟨.ref _, upd H (s.heap.objs.size + 1) (.lst (bs.map (·.1))), I.laid (t' := s.toks) (fun _ _ => PyProof.Rows.sortedAll_old) (Nat.le_succ _) ⟨hlen, out, ep, rvo, he'⟩, rfl, q _ _ _ hp ?_ (paired_zip fun b hb => (rel b hb).2.1) (I.hok.fresh (Nat.le_succ _))⟩
  refine List.pairwise_map.mpr (List.Pairwise.imp_of_mem (fun {x y} hx hy z => ?_) pw2)
  cases e : HT.lexLt y.2.1 x.2.1 with
  | false => rfl
  | true =>
    rw [lt_term ((hn _ (rel y hy).2.2).trans (hn _ (rel x hx).2.2).symm) e] at z
    cases z
end
end TG
namespace TF52
open PySem PySem.Spec L2 TG TA
open PyProof.Rows hiding St
/-! ### terms told by two values; a table told -/
abbrev sDig : Stmt := top 76
abbrev sPwP : Stmt := top 77
theorem scDig : FnScope ["value", "base", "found", "place", "digit"] ["value", "base"] (defScope sDig) := ⟨rfl, rfl, rfl, by decide +kernel, rfl, by decide +kernel, by decide +kernel⟩
theorem scPwP : FnScope ["choice", "place", "step", "powers", "sign", "power"] ["choice", "place", "step"] (defScope sPwP) := ⟨rfl, rfl, rfl, by decide +kernel, rfl, by decide +kernel, by decide +kernel⟩
section
variable {P : Program} {w : World} {K : PySem.W.Frag} {mg : Str → Option Value} {base : Heap} {f f1 f2 f3 f4 : Addr} {fd fd1 fd2 fd3 fd4 : FuncData}
theorem ok_dig (F : Fun K "digits_of" "digits_of" sDig f fd) (T : Bn mg) : FnOk P w K mg base CX0 1 f fd ["value", "base"] spDig := by
  refine F.ok scDig (fun vs H Q E h => ?_) (fun cdv A outer s H vs Q E hr h => ?_)
  · obtain ⟨v, b, D, rfl, _⟩ := h
    rfl
  obtain ⟨v, b, D, rfl, hb, hD, hv, hl, hbt, q⟩ := h
  refine ⟨_, (pss_cons (ps_set (i := 2) scDig.nd rfl (.inl rfl) (pe_lst pa_nil))
      (pss_cons (ps_set (i := 3) scDig.nd rfl (.inl rfl) pe_int)
      (pss_cons (ps_while PassesOwn.never (pt_cmpR op_gt (pv 0) pe_int (nomark _))
        (pss_cons (ps_asg (pe_callB call_divmodW (by rfl) T.b_divmod (by decide +kernel) (pa_cons (pv 0) (pa_cons (pv 1) pa_nil))) (pg_tup (by rfl) (pgs_cons (pg_name (i := 0) scDig.nd rfl (.inl rfl)) (pgs_cons (pg_name (i := 4) scDig.nd rfl (.inl rfl)) pgs_nil))))
        (pss_cons (ps_if (pt_cmpR op_gt (pv 4) pe_int (nomark _)) (pss_one (ps_expr (pe_bm PySem.F.plainAttrs_list PySem.F.slot_list_append PySem.F.type_list_append mt_append (pv 2) (pa_cons (pe_tup (pa_cons (pv 3) (pa_cons (pv 4) pa_nil))) pa_nil)))) pss_nil)
        (pss_one (ps_aug (i := 3) scDig.nd rfl (.inl rfl) pe_int ip_add)))))
      (pss_one (ps_ret (pv 2)))))), ?_⟩
  refine ⟨Nat.zero_le _, fun L hL => ?_⟩
  have s1 := new_same (o := .lst []) hL
  refine ⟨fun m σ G => ∃ (k : Nat) (D1 : List Int) (dn : List (Int × Int)) (rs : List V) (v4 : Option V), m = D1.length ∧ σ = [some (.int (hornD b D1)), some (.int b), some (.ref L), some (.int (k : Int)), v4] ∧ Same H G ∧ G L = some (.lst rs) ∧ Paired (PairH G) rs dn ∧ DigOk b D1 ∧ plcs 0 D = dn ++ plcs k D1 ∧ k + D1.length = D.length ∧ rs.length ≤ k ∧ Builtin.Int.intBits (hornD b D1) ≤ 4000, ⟨D.length, 0, D, [], [], none, rfl, by rw [hv]; rfl, s1, upd_same, .nil, hD, rfl, Nat.zero_add _, Nat.le_refl _, by rw [← hv]; exact hbt⟩, ?_⟩
  rintro m σ G ⟨k, D1, dn, rs, v4, rfl, rfl, sg, hL1, prs, hd1, hpl, hk, hrs, hb1⟩
  refine ⟨_, rfl, _, _, rfl, rfl, _, rfl, ?_⟩
  cases hp : decide ((0 : Int) < hornD b D1) with
  | false =>
    have z : hornD b D1 = 0 := by
      have := hornD_nn hb hd1
      have := of_decide_eq_false hp
      omega
    rw [hornD_zero hb k hd1 z, List.append_nil] at hpl
    refine iteF ?_
    exact ⟨_, rfl, q L rs G sg hL1 (by rw [hpl]; exact prs)⟩
  | true =>
    cases D1 with
    | nil => cases hp
    | cons d D2 =>
      obtain ⟨e1, e2⟩ := hornD_div hb hd1
      obtain ⟨hd0, hd2⟩ := List.forall_mem_cons.mp hd1
      refine iteT ⟨_, fun σ' H' h => h, _, rfl, _, rfl, _, _, rfl, ⟨by omega, (divp_ok (by omega) (by omega)).2⟩, fun t ht => ⟨t, _, rfl, SqT.of upd_same, rfl, _, _, rfl, _, _, rfl, rfl, ?_⟩⟩
      rw [e1, e2]
      have st : Same G (L2.upd G t (.tup [.int (hornD b D2), .int d])) := new_same ht
      generalize L2.upd G t (.tup [.int (hornD b D2), .int d]) = G1 at st ⊢
      have hl1 := st _ _ hL1
      have sg1 := sg.trans st
      have prs1 := paired_imp (fun _ _ (h : PairH G _ _) => h.same st) prs
      have bt : Builtin.Int.intBits (hornD b D2) ≤ 4000 := Nat.le_trans (bits_mono (hornD_nn hb fun x hx => hd2 x hx) (hornD_le hb hd1)) hb1
      have hlen : k + (D2.length + 1) = D.length := hk
      refine ⟨_, rfl, _, _, rfl, rfl, _, rfl, ?_⟩
      cases h0 : decide ((0 : Int) < d) with
      | false =>
        refine iteF ?_
        have dz : plcs k (d :: D2) = plcs (k + 1) D2 := by
          show (if 0 < d then _ else _) = _
          rw [if_neg (of_decide_eq_false h0)]
        rw [dz] at hpl
        exact ⟨_, rfl, _, _, rfl, rfl, D2.length, Nat.lt_succ_self _, k + 1, D2, dn, rs, _, rfl, rfl, sg1, hl1, prs1, hd2, hpl, by omega, by omega, bt⟩
      | true =>
        refine iteT ⟨_, rfl, .inl ⟨rfl, _, SqL.of hl1⟩, _, rfl, _, rfl, (by show 2 ≤ sizeLine; decide), fun z hz => ⟨L, rs, _, rfl, rfl, new_same hz _ _ hl1, small1000 (by omega), ?_⟩⟩
        have dz : plcs k (d :: D2) = ((k : Int), d) :: plcs (k + 1) D2 := by
          show (if 0 < d then _ else _) = _
          rw [if_pos (of_decide_eq_true h0)]
        rw [dz] at hpl
        have s2 := new_same (o := .tup [.int (k : Int), .int d]) hz
        have zL : z ≠ L := ne_of_none hl1 hz |>.symm
        refine ⟨_, rfl, _, _, rfl, rfl, D2.length, Nat.lt_succ_self _, k + 1, D2, dn ++ [((k : Int), d)], rs ++ [.ref z], _, rfl, rfl, same_put (sg1.trans s2) hL, upd_same, paired_snoc ⟨z, rfl, (upd_ne zL).trans upd_same⟩ (paired_imp (fun _ _ h => pair_updL (h.same s2) (s2 _ _ hl1)) prs1), hd2, by rw [hpl, List.append_assoc]; rfl, by omega, by rw [List.length_append, List.length_singleton]; omega, bt⟩
theorem ok_pwp (F : Fun K "powers_at" "powers_at" sPwP f fd) (T : Bn mg) : FnOk P w K mg base CX0 1 f fd ["choice", "place", "step"] spPwP := by
  refine F.ok scPwP (fun vs H Q E h => ?_) (fun cdv A outer s H vs Q E hr h => ?_)
  · obtain ⟨a, c, pl, st, rfl, _⟩ := h
    rfl
  obtain ⟨a, c, pl, st, rfl, ha, hc, hp0, hp1, hs1, hs2, q0, q1⟩ := h
  refine ⟨_, (pss_cons (ps_set (i := 3) scPwP.nd rfl (.inl rfl) (pe_lst pa_nil))
      (pss_cons (ps_for PassesOwn.never rfl (pi_tup (pv 0)) (pg_name (i := 4) scPwP.nd rfl (.inl rfl))
        (pss_cons (ps_set (i := 5) scPwP.nd rfl (.inl rfl) pe_int)
        (pss_cons (ps_if (pt_cmpR op_eq (pv 4) pe_int (nomark _)) (pss_one (ps_asg (pe_callB call_divmodW (by rfl) T.b_divmod (by decide +kernel) (pa_cons (pv 1) (pa_cons (pv 2) pa_nil))) (pg_tup (by rfl) (pgs_cons (pg_name (i := 1) scPwP.nd rfl (.inl rfl)) (pgs_cons (pg_name (i := 5) scPwP.nd rfl (.inl rfl)) pgs_nil))))) pss_nil)
        (pss_one (ps_expr (pe_bm PySem.F.plainAttrs_list PySem.F.slot_list_append PySem.F.type_list_append mt_append (pv 3) (pa_cons (pv 5) pa_nil)))))))
      (pss_one (ps_ret (pe_ifExp (pt_cmpR op_eq (pv 1) pe_int (nomark _)) (pe_callTy call_tuple_of (by rfl) T.b_tuple (by decide +kernel) (pa_cons (pv 3) pa_nil)) pe_non))))), ?_⟩
  refine ⟨Nat.zero_le _, fun L hL => ⟨_, rfl, a, rfl, ⟨_, SqT.of (new_same hL _ _ ha)⟩, ?_⟩⟩
  have s1 := new_same (o := .lst []) hL
  refine for_tup (K := K) (a := a) (xs := c.map V.int) (fun i σ G => ∃ (pl' : Int) (ps : List Int) (v4 v5 : Option V), σ = [some (.ref a), some (.int pl'), some (.int st), some (.ref L), v4, v5] ∧ Same H G ∧ G L = some (.lst (ps.map V.int)) ∧ ps.length = i ∧ pwP c pl st = (ps ++ (pwP (c.drop i) pl' st).1, (pwP (c.drop i) pl' st).2) ∧ 0 ≤ pl' ∧ pl' ≤ 1000000) ?_ ?_ ?_ ?_
  · exact ⟨pl, [], none, none, rfl, s1, upd_same, rfl, by rw [List.drop_zero]; rfl, hp0, hp1⟩
  · rintro j σ G _ ⟨_, _, _, _, _, sg, _⟩
    exact SqT.of (sg _ _ ha)
  · rintro j x σ G hx ⟨pl', ps, v4, v5, rfl, sg, hg, la, ee, p0, p1⟩
    rw [List.getElem?_map] at hx
    obtain ⟨s, hs, rfl⟩ := Option.map_eq_some_iff.mp hx
    have hj := (List.getElem?_eq_some_iff.mp hs).1
    have ed : c.drop j = s :: c.drop (j + 1) := by
      rw [List.drop_eq_getElem_cons hj]
      congr 1
      exact (List.getElem?_eq_some_iff.mp hs).2
    rw [ed] at ee
    rw [pwP_cons] at ee
    refine ⟨_, rfl, rfl, _, rfl, ?_⟩
    have fin : ∀ (G1 : Hp) (pl1 v : Int) (σ1 : L2.St), σ1 = [some (.ref a), some (.int pl1), some (.int st), some (.ref L), some (.int s), some (.int v)] → Same G G1 → pwP c pl st = (ps ++ v :: (pwP (c.drop (j + 1)) pl1 st).1, (pwP (c.drop (j + 1)) pl1 st).2) → 0 ≤ pl1 → pl1 ≤ 1000000 → (L2.upd G1 L (.lst (ps.map V.int ++ [V.int v]))) L = some (.lst ((ps ++ [v]).map V.int)) ∧ (ps ++ [v]).length = j + 1 ∧ pwP c pl st = ((ps ++ [v]) ++ (pwP (c.drop (j + 1)) pl1 st).1, (pwP (c.drop (j + 1)) pl1 st).2) ∧ Same H (L2.upd G1 L (.lst (ps.map V.int ++ [V.int v]))) := by
      intro G1 pl1 v σ1 e1 sg1 e2 h1 h2
      exact ⟨by rw [upd_same, List.map_append]; rfl, by rw [List.length_append, la]; rfl, by rw [e2, List.append_assoc]; rfl, same_put (sg.trans sg1) hL⟩
    by_cases z : s = 1
    · rw [show decide (V.int s = V.int 1) = true from by rw [z]; rfl]
      rw [if_pos z] at ee
      have b1 : Builtin.Int.intBits pl' ≤ 20 := bits_le (by omega)
      refine iteT ⟨_, rfl, _, rfl, _, _, rfl, ⟨by omega, (divp_ok (by omega) (by omega)).2⟩, fun t ht => ⟨t, _, rfl, SqT.of upd_same, rfl, _, _, rfl, _, _, rfl, rfl, ?_⟩⟩
      have st1 : Same G (L2.upd G t (.tup [.int (pl' / st), .int (pl' % st)])) := new_same ht
      generalize L2.upd G t (.tup [.int (pl' / st), .int (pl' % st)]) = G1 at st1 ⊢
      have hg1 := st1 _ _ hg
      refine ⟨_, rfl, .inl ⟨rfl, _, SqL.of hg1⟩, _, rfl, L, _, _, rfl, rfl, hg1, small1000 (by rw [List.length_map]; have := (List.length_map (f := V.int) (as := c)); omega), ?_⟩
      have d0 : 0 ≤ pl' / st := Int.ediv_nonneg p0 (by omega)
      have d1 : pl' / st ≤ pl' := Int.ediv_le_self _ p0
      obtain ⟨f1, f2, f3, f4⟩ := fin G1 (pl' / st) (pl' % st) _ rfl st1 ee d0 (by omega)
      exact ⟨pl' / st, _, _, _, rfl, f4, f1, f2, f3, d0, by omega⟩
    · rw [show decide (V.int s = V.int 1) = false from decide_eq_false fun e => z (by injection e)]
      rw [if_neg z] at ee
      refine iteF ⟨_, rfl, .inl ⟨rfl, _, SqL.of hg⟩, _, rfl, L, _, _, rfl, rfl, hg, small1000 (by rw [List.length_map]; omega), ?_⟩
      obtain ⟨f1, f2, f3, f4⟩ := fin G pl' 0 _ rfl (fun _ _ e => e) ee p0 p1
      exact ⟨pl', _, _, _, rfl, f4, f1, f2, f3, p0, p1⟩
  · rintro σ G ⟨pl', ps, v4, v5, rfl, sg, hg, la, ee, p0, p1⟩
    rw [List.length_map, List.drop_length] at ee
    have ee : pwP c pl st = (ps ++ [], pl') := ee
    rw [List.append_nil] at ee
    rw [ee] at q0 q1
    refine ⟨_, rfl, rfl, _, rfl, ?_⟩
    by_cases z : pl' = 0
    · rw [show decide (V.int pl' = V.int 0) = true from by rw [z]; rfl]
      refine iteT ⟨_, rfl, L, _, rfl, .inl ⟨SqL.of hg, fun u hu => q1 _ _ z (sg.trans (new_same hu)) ⟨u, rfl, upd_same⟩⟩⟩
    · rw [show decide (V.int pl' = V.int 0) = false from decide_eq_false fun e => z (by injection e)]
      exact iteF (q0 z _ sg)
end
end TF52
/-! a tuple times a small number, nought and one too -/
namespace TG
open PySem PySem.Spec L2 PyProof.Rows
theorem tup_mul1 (l : Addr) (items : Array Value) (n : Nat) (dd : Option Addr) (sl : Array (Option Value)) (u : Tok) :
    Meets (Builtin.«tuple.__mul__» ⟨[.ref l, .int 1 u], []⟩) (fun _ R s => s.heap.get? l = some { cls := .type "tuple", dict := dd, data := .seq items n, slots := sl } ∧ R (.ok (.ret (Value.ref l))) s) :=
  .of_wp fun prog w A R s h => by
    obtain ⟨hp, g, d, tk, os⟩ := s
    obtain ⟨hl, h⟩ := h
    have f1 := AutoSeq1.idx_int
    wp_walk using wpAny_loadPart' hl
    exact ⟨_, rfl, h⟩
theorem tup_mul0 (l : Addr) (items : Array Value) (n : Nat) (dd : Option Addr) (sl : Array (Option Value)) (u : Tok) (hi : items.isEmpty = false) :
    Meets (Builtin.«tuple.__mul__» ⟨[.ref l, .int 0 u], []⟩) (fun _ R s => s.heap.get? l = some { cls := .type "tuple", dict := dd, data := .seq items n, slots := sl } ∧ R (.ok (.ret (Value.ref s.heap.objs.size))) { s with heap := s.heap.push { cls := Value.type "tuple", data := Data.seq #[] } }) :=
  .of_wp fun prog w A R s h => by
    obtain ⟨hp, g, d, tk, os⟩ := s
    obtain ⟨hl, h⟩ := h
    have f1 := AutoSeq1.idx_int
    wp_walk using wpAny_loadPart' hl
    exact ⟨_, rfl, h⟩
theorem rep_one {α : Type} (x : α) : ∀ n : Nat, (List.replicate n [x]).flatten = List.replicate n x
  | 0 => rfl
  | n + 1 => by rw [List.replicate_succ, List.flatten_cons, rep_one x n, List.replicate_succ]; rfl
def rRep1 (K : PySem.W.Frag) : R2 := fun x y H Q => ∃ l k xs, x = .ref l ∧ y = .int k ∧ SqT K H l xs ∧ xs ≠ [] ∧ 0 ≤ k ∧ k ≤ 1000 ∧ xs.length ≤ 1000 ∧ (k = 1 → Q (.ref l) H) ∧ (k ≠ 1 → ∀ p, H p = none → Q (.ref p) (upd H p (.tup (List.replicate k.toNat xs).flatten)))
section
variable {X : Cx}
theorem op_rep1 : OpR X (binaryOp .Mult) (rRep1 X.K) := by
  intro pins s σ H x y v u Q I rx ry h
  obtain ⟨l, k, xs, rfl, rfl, hT, hne, h1, h2, hz, q1, q⟩ := h
  by_cases big : 2 ≤ k
  · exact op_repT pins s σ H _ _ v u Q I rx ry ⟨l, k, xs, rfl, rfl, hT, hne, big, h2, hz, q (by omega)⟩
  cases rx
  obtain ⟨t, rfl⟩ := ry
  obtain ⟨its, r, ⟨⟨cls, dd, data, sl⟩, ho, hc, n, hd⟩, hs⟩ := I.tuple hT
  simp only at hc hd
  subst hc hd
  have hle : its.length = xs.length := r.length.symm
  have hn : its ≠ [] := fun e => hne (by
    rw [e] at hle
    exact List.eq_nil_of_length_eq_zero hle.symm)
  have hi : its.toArray.isEmpty = false := by
    cases its with
    | nil => exact absurd rfl hn
    | cons a b => rfl
  have hk : k = 0 ∨ k = 1 := by omega
  refine wpAny_binaryOp_repeat_ref (T := "tuple") (U := "int") (by decide) ⟨_, ho, rfl⟩ (fun s' => typeIs_int s' k t) noFill_tuple_mul F.fills_int_mul F.slot_int_rmul repeat_tuple F.slot_int_index.lookup
    (call_meets F.slot_int_rmul (typeIs_int s k t) F.entry_int_rmul (F.args_int_rmul_2 _ _) (int_rmul_tuple k t l its.toArray n dd sl)
      ⟨ho, rfl, ⟨_, ho, rfl⟩, ?_⟩)
  rcases hk with rfl | rfl
  · refine call_meets F.slot_tuple_mul ⟨_, ho, rfl⟩ F.entry_tuple_mul (F.args_tuple_mul_2 _ _) (tup_mul0 l its.toArray n dd sl t hi) ⟨ho, ?_⟩
    refine ⟨.ref s.heap.objs.size, _, I.laid (t' := s.toks) (o := .tup []) (fun b ob q => Heap.get?_push_of_some _ q) (Nat.le_refl _) ?_, rfl, q (by decide) _ (I.hok.fresh (Nat.le_refl _))⟩
    exact ⟨Nat.zero_le _, _, .nil, IsTup.new _ _⟩
  · refine call_meets F.slot_tuple_mul ⟨_, ho, rfl⟩ F.entry_tuple_mul (F.args_tuple_mul_2 _ _) (tup_mul1 l its.toArray n dd sl t) ⟨ho, ?_⟩
    exact ⟨.ref l, _, I, rfl, q1 rfl⟩
end
end TG
namespace TF52
open PySem PySem.Spec L2 TG TA
open PyProof.Rows hiding St
/-! ### terms told -/
abbrev sTT : Stmt := top 75
theorem scTT : FnScope ["choice", "values", "first", "base", "step", "terms", "worth", "place", "share", "powers"] ["choice", "values"] (defScope sTT) := ⟨rfl, rfl, rfl, by decide +kernel, rfl, by decide +kernel, by decide +kernel⟩
section
variable {P : Program} {w : World} {K : PySem.W.Frag} {mg : Str → Option Value} {base : Heap} {f f1 f2 f3 f4 : Addr} {fd fd1 fd2 fd3 fd4 : FuncData}
theorem ok_tt (F : Fun K "terms_told" "terms_told" sTT f fd) (T : Bn mg) (D_base_of : Df K mg "base_of" sBase f1 fd1 ["first"]) (G_base_of : FnOk P w K mg base CX0 1 f1 fd1 ["first"] spBase) (D_digits_of : Df K mg "digits_of" sDig f2 fd2 ["value", "base"]) (G_digits_of : FnOk P w K mg base CX0 1 f2 fd2 ["value", "base"] spDig)
    (D_powers_at : Df K mg "powers_at" sPwP f3 fd3 ["choice", "place", "step"]) (G_powers_at : FnOk P w K mg base CX0 1 f3 fd3 ["choice", "place", "step"] spPwP) : FnOk P w K mg base CX0 2 f fd ["choice", "values"] spTT := by
  refine F.ok scTT (fun vs H Q E h => ?_) (fun cdv A outer s H vs Q E hr h => ?_)
  · obtain ⟨a, l, c, t, rfl, _⟩ := h
    rfl
  obtain ⟨a, l, c, t, rfl, ha, hl, h01, hc, hok, hor⟩ := h
  refine ⟨_, (pss_cons (ps_set (i := 2) scTT.nd rfl (.inl rfl) (pe_ix ix_list (pv 1) pe_int (fun _ _ => rfl)))
      (pss_cons (ps_if (pt_cmpR op_eq (pe_callB call_len_seq (by rfl) T.b_len (by decide +kernel) (pa_cons (pv 1) pa_nil)) pe_int (nomark _)) (pss_one (ps_ret (pe_ifExp (pt_cmpR op_gt (pv 2) pe_int (nomark _)) (pe_lst (pa_cons (pe_tup (pa_cons (pe_op op_rep1 (pe_tup (pa_cons pe_int pa_nil)) (pe_callB call_len_seq (by rfl) T.b_len (by decide +kernel) (pa_cons (pv 0) pa_nil))) (pa_cons (pv 2) pa_nil))) pa_nil)) (pe_lst pa_nil)))) pss_nil)
      (pss_cons (ps_asg (pe_cd D_base_of G_base_of hr (by decide) (pa_cons (pv 2) pa_nil)) (pg_tup (by rfl) (pgs_cons (pg_name (i := 3) scTT.nd rfl (.inl rfl)) (pgs_cons (pg_name (i := 4) scTT.nd rfl (.inl rfl)) pgs_nil))))
      (pss_cons (ps_set (i := 5) scTT.nd rfl (.inl rfl) (pe_lst pa_nil))
      (pss_cons (ps_set (i := 6) scTT.nd rfl (.inl rfl) pe_int)
      (pss_cons (ps_for PassesOwn.never rfl (pi_list (pe_cd D_digits_of G_digits_of hr (by decide) (pa_cons (pe_ix ix_list (pv 1) pe_int (fun _ _ => rfl)) (pa_cons (pv 3) pa_nil)))) (pg_tup (by rfl) (pgs_cons (pg_name (i := 7) scTT.nd rfl (.inl rfl)) (pgs_cons (pg_name (i := 8) scTT.nd rfl (.inl rfl)) pgs_nil)))
        (pss_cons (ps_set (i := 9) scTT.nd rfl (.inl rfl) (pe_cd D_powers_at G_powers_at hr (by decide) (pa_cons (pv 0) (pa_cons (pv 7) (pa_cons (pv 4) pa_nil)))))
        (pss_cons (ps_if (pt_cmpR op_isN (pv 9) pe_non (nomark _)) (pss_one (ps_ret pe_non)) pss_nil)
        (pss_cons (ps_expr (pe_bm PySem.F.plainAttrs_list PySem.F.slot_list_append PySem.F.type_list_append mt_append (pv 5) (pa_cons (pe_tup (pa_cons (pv 9) (pa_cons (pv 8) pa_nil))) pa_nil)))
        (pss_one (ps_aug (i := 6) scTT.nd rfl (.inl rfl) (pe_op op_shlW (pv 8) (pe_callB (cr_sumT rfl) (by rfl) T.b_sum (by decide +kernel) (pa_cons (pv 9) pa_nil))) ip_add))))))
      (pss_one (ps_ret (pe_ifExp (pt_cmpR op_eq (pv 6) (pv 2) (nomark _)) (pe_callB (cr_sortTm hr.units) (by rfl) T.b_sorted (by decide +kernel) (pa_cons (pv 5) pa_nil)) pe_non))))))))), ?_⟩
  rcases hor with ⟨v, rfl, q⟩ | ⟨v, x, D, rfl, h1, hv, hD, hx, hl9, hb4, q0, q1⟩
  · refine ⟨_, rfl, l, _, _, _, rfl, rfl, SqL.of hl, atI_nat (j := 0) rfl, _, rfl, l, _, rfl, .inl (SqL.of hl), rfl, _, rfl, ?_⟩
    refine iteT ⟨_, rfl, _, _, rfl, rfl, _, rfl, ?_⟩
    cases hp : decide ((0 : Int) < v) with
    | false =>
      rw [if_neg (of_decide_eq_false hp)] at q
      refine iteF ⟨Nat.zero_le _, fun p hp => ?_⟩
      exact q _ _ (new_same hp) ⟨⟨p, rfl, hp⟩, p, [], rfl, .inl upd_same, .nil⟩
    | true =>
      rw [if_pos (of_decide_eq_true hp)] at q
      refine iteT ?_
      have fin : ∀ (z : Addr) (G : Hp), Same H G → G z = some (.tup ((c.map fun _ => (0 : Int)).map V.int)) → ∀ (D2 : Addr), G D2 = none → ∀ (L2' : Addr), (L2.upd G D2 (.tup [.ref z, .int v])) L2' = none → Q (.ref L2') (L2.upd (L2.upd G D2 (.tup [.ref z, .int v])) L2' (.lst [.ref D2])) := by
        intro z G sg hz D2 h2 L2' h3
        have s2 := new_same (o := .tup [.ref z, .int v]) h2
        have s3 := new_same (o := .lst [.ref D2]) h3
        exact q _ _ ((sg.trans s2).trans s3) ⟨⟨L2', rfl, sg.free (s2.free h3)⟩, L2', _, rfl, .inl upd_same, .cons ⟨D2, z, rfl, s3 _ _ upd_same, s3 _ _ (s2 _ _ hz)⟩ .nil⟩
      refine ⟨by show 1 ≤ sizeLine; decide, fun t0 ht0 => ⟨_, rfl, a, _, rfl, .inr (SqT.of (new_same ht0 _ _ ha)), t0, _, [.int 0], rfl, rfl, SqT.of upd_same, by simp, by omega, by rw [List.length_map]; omega, by decide, fun e => ?_, fun ne p hp => ?_⟩⟩
      · have e : c.length = 1 := by rw [List.length_map] at e; omega
        have fin := fin t0 (L2.upd H t0 (.tup [.int 0])) (new_same ht0) (by
          rw [upd_same]
          match c, e with
          | [x], _ => rfl)
        exact ⟨_, rfl, by show 2 ≤ sizeLine; decide, fun D2 h2 => ⟨by show 1 ≤ sizeLine; decide, fun L2' h3 => fin D2 h2 L2' h3⟩⟩
      · have fin := fin p (L2.upd (L2.upd H t0 (.tup [.int 0])) p (.tup (List.replicate ((c.map V.int).length : Int).toNat [V.int 0]).flatten)) ((new_same ht0).trans (new_same hp)) (by
          rw [upd_same, List.length_map, Int.toNat_natCast, List.map_map]
          rw [List.eq_replicate_iff.mpr (show (List.map (V.int ∘ fun _ => (0 : Int)) c).length = c.length ∧ ∀ b ∈ List.map (V.int ∘ fun _ => (0 : Int)) c, b = V.int 0 from ⟨List.length_map _, fun b hb => by
            obtain ⟨_, _, rfl⟩ := List.mem_map.mp hb
            rfl⟩), rep_one])
        exact ⟨_, rfl, by show 2 ≤ sizeLine; decide, fun D2 h2 => ⟨by show 1 ≤ sizeLine; decide, fun L2' h3 => fin D2 h2 L2' h3⟩⟩
  · have hs := sum_01 h01
    have fm : ∃ m, frst c = some m ∧ m ≤ 1000000000000000000 := by
      have q : c.sum.toNat = 1 ∨ c.sum.toNat = 2 ∨ c.sum.toNat = 3 := by omega
      unfold frst
      rcases q with e | e | e <;> rw [e] <;> exact ⟨_, rfl, by decide⟩
    obtain ⟨m, hm, hm2⟩ := fm
    have vm := (hok.2 v rfl).2 m hm
    have kb : Builtin.Int.intBits v ≤ 60 := bits_le (by omega)
    obtain ⟨k1, k2, k3⟩ := bits_gt hv
    unfold tldP at q0 q1
    refine ⟨_, rfl, l, _, _, _, rfl, rfl, SqL.of hl, atI_nat (j := 0) rfl, _, rfl, l, _, rfl, .inl (SqL.of hl), rfl, _, rfl, ?_⟩
    refine iteF ⟨_, rfl, v, rfl, fun p1 H1 s1 hp1 => ⟨p1, _, rfl, SqT.of hp1, rfl, _, _, rfl, _, _, rfl, rfl, ?_⟩⟩
    generalize Builtin.Int.intBits v = k at kb k1 k2 k3 q0 q1 hp1 ⊢
    refine ⟨Nat.zero_le _, fun L hL => ?_⟩
    have s2 := s1.trans (new_same (o := .lst []) hL)
    have hL2 : (L2.upd H1 L (.lst [])) L = some (.lst []) := upd_same
    have L0 : H L = none := s1.free hL
    generalize L2.upd H1 L (.lst []) = H2 at s2 hL2 ⊢
    refine ⟨_, rfl, l, _, _, _, rfl, rfl, SqL.of (s2 _ _ hl), atI_nat (j := 1) rfl, _, rfl, x, v + 1, D, rfl, by omega, hD, hx, hl9, hb4, fun p rs H3 s3 hp prs => ⟨p, rfl, ⟨_, SqL.of hp⟩, ?_⟩⟩
    refine for_list (K := K) (a := p) (xs := rs) (fun i σ G => ∃ (ts : List (List Int × Int)) (es : List V) (v7 v8 v9 : Option V), σ = [some (.ref a), some (.ref l), some (.int v), some (.int (v + 1)), some (.int (k : Int)), some (.ref L), some (.int (wor2 ts)), v7, v8, v9] ∧ Same H G ∧ G p = some (.lst rs) ∧ Paired (PairH G) rs (plcs 0 D) ∧ G L = some (.lst es) ∧ Paired (TermH G) es ts ∧ ts.length = i ∧ tmsP c (k : Int) (plcs 0 D) = (tmsP c (k : Int) ((plcs 0 D).drop i)).map (fun r => ts ++ r) ∧ ∀ t ∈ ts, t.1.length = c.length) ?_ ?_ ?_ ?_
    · exact ⟨[], [], none, none, none, rfl, s2.trans s3, hp, prs, s3 _ _ hL2, .nil, rfl, by rw [List.drop_zero]; cases tmsP c (k : Int) (plcs 0 D) <;> rfl, fun t h => nomatch h⟩
    · rintro i σ G _ ⟨_, _, _, _, _, _, _, hp, _⟩
      exact SqL.of hp
    · rintro i y σ G hy ⟨ts, es, v7, v8, v9, rfl, sg, hpG, prG, hLG, pes, lts, etm, hln⟩
      obtain ⟨⟨pl, d⟩, hq, b, rfl, hb⟩ := TG.paired_get prG hy
      have hb : G b = some (.tup [.int pl, .int d]) := hb
      have pL : p ≠ L := fun e => by
        have z := s3 _ _ hL2
        rw [← e, hp] at z
        cases z
        cases hy
      obtain ⟨b1, b2, b3, b4⟩ := plcs_bd (List.mem_of_getElem? hq)
      have b1 : (0 : Int) ≤ pl := b1
      have b2 : pl < (0 : Nat) + D.length := b2
      have dlt := (hD d b4).2
      rw [List.drop_eq_getElem_cons (lt_get hq), (List.getElem?_eq_some_iff.mp hq).2, tmsP_cons] at etm
      refine ⟨b, _, rfl, SqT.of hb, rfl, _, _, rfl, _, _, rfl, rfl, ?_⟩
      refine ⟨_, rfl, _, rfl, _, rfl, a, c, pl, (k : Int), rfl, sg _ _ ha, hc, b1, by omega, by omega, by omega, fun ne G1 s4 => ?_, fun u G1 e0 s4 hu => ?_⟩
      · rw [if_neg ne] at etm
        have etm : tmsP c (k : Int) (plcs 0 D) = none := etm
        rw [etm] at q0
        exact ⟨_, rfl, rfl, _, rfl, iteT (q0 rfl _ (sg.trans s4))⟩
      · rw [if_pos e0] at etm
        obtain ⟨ua, rfl, hu⟩ := hu
        have l1 := TG.paired_len pes
        have l2 := TG.paired_len prs
        have l3 := plcs_len D 0
        have l4 := lt_get hy
        have hL4 := s4 _ _ hLG
        obtain ⟨w1, w2⟩ := sum_bd (pwP_bd (st := (k : Int)) (by omega) c pl)
        have w3 := pwP_len c pl (k : Int)
        have w4 : (pwP c pl (k : Int)).1.sum ≤ 180 := by
          rw [w3] at w2
          have : (c.length : Int) * (k : Int) ≤ 3 * 60 := Int.mul_le_mul (by omega) (by omega) (by omega) (by omega)
          omega
        refine ⟨_, rfl, rfl, _, rfl, iteF ⟨_, rfl, .inl ⟨rfl, _, SqL.of hL4⟩, _, rfl, _, rfl, (by show 2 ≤ sizeLine; decide), fun z hz => ⟨L, es, _, rfl, rfl, new_same hz _ _ hL4, small1000 (by omega), ?_⟩⟩⟩
        have s5 := new_same (o := .tup [.ref ua, .int d]) hz
        have zL : z ≠ L := (ne_of_none hL4 hz).symm
        have uL : ua ≠ L := fun e => by
          rw [e, hL4] at hu
          cases hu
        have hu5 : (L2.upd (L2.upd G1 z (.tup [.ref ua, .int d])) L (.lst (es ++ [.ref z]))) ua = some (.tup ((pwP c pl (k : Int)).1.map V.int)) := (upd_ne uL).trans (s5 _ _ hu)
        refine ⟨_, rfl, _, rfl, _, rfl, ua, _, rfl, SqT.of hu5, ?_⟩
        have db : Builtin.Int.intBits d ≤ 60 := bits_le (by omega)
        refine ⟨_, _, rfl, rfl, ⟨w1, by have e : (2 : Int) ^ 27 = 134217728 := by decide
                                        rw [e]; omega⟩, _, _, rfl, rfl, ?_⟩
        have sg4 := s4.trans s5
        refine ⟨ts ++ [((pwP c pl (k : Int)).1, d)], es ++ [.ref z], _, _, _, by rw [wor2_snoc]; rfl, same_put (sg.trans sg4) L0, (upd_ne pL).trans (sg4 _ _ hpG), paired_imp (fun _ _ h => pair_updL (h.same sg4) (s5 _ _ hL4)) prG, upd_same, paired_snoc ⟨z, ua, rfl, (upd_ne zL).trans upd_same, hu5⟩ (paired_imp (fun _ _ h => (h.same sg4).updL (s5 _ _ hL4)) pes), by rw [List.length_append, lts]; rfl, ?_, fun t ht => ?_⟩
        · rw [etm, Option.map_map]
          congr 1
          funext r
          show ts ++ (_ :: r) = (ts ++ [_]) ++ r
          rw [List.append_assoc]
          rfl
        · rcases List.mem_append.mp ht with ht | ht
          · exact hln t ht
          · rw [List.mem_singleton.mp ht]
            exact w3
    · rintro σ G ⟨ts, es, v7, v8, v9, rfl, sg, hpG, prG, hLG, pes, lts, etm, hln⟩
      rw [TG.paired_len prs, List.drop_length] at etm
      have etm : tmsP c (k : Int) (plcs 0 D) = some ts := by rw [etm]; show some (ts ++ []) = _; rw [List.append_nil]
      rw [etm] at q0 q1
      refine ⟨_, rfl, _, rfl, rfl, _, rfl, ?_⟩
      by_cases z : wor2 ts = v
      · rw [show decide (V.int (wor2 ts) = V.int v) = true from by rw [z]; exact decide_eq_true rfl]
        have q1 := fun ts' u H' => q1 ts ts' u H' (if_pos z)
        refine iteT ⟨_, rfl, L, es, ts, c.length, rfl, SqL.of hLG, pes, hln, fun ys ts' p2 h1 h2 h3 h4 => q1 ts' _ _ h1 h2 (sg.trans (new_same h4)) ⟨⟨p2, rfl, sg.free h4⟩, p2, ys, rfl, .inl upd_same, paired_imp (fun _ _ h => h.same (new_same h4)) h3⟩⟩
      · rw [show decide (V.int (wor2 ts) = V.int v) = false from decide_eq_false fun e => z (by injection e)]
        exact iteF (q0 (if_neg z) _ sg)
end
end TF52
namespace TF52
open PySem PySem.Spec L2 TG TA
open PyProof.Rows hiding St
/-! ### a table told; tables compared -/
abbrev sTB : Stmt := top 69
theorem scTB : FnScope ["many", "answers", "told", "rows", "choice", "values", "terms"] ["many", "answers"] (defScope sTB) := ⟨rfl, rfl, rfl, by decide +kernel, rfl, by decide +kernel, by decide +kernel⟩
/-- what a choice's values tell -/
def Tells (c t : List Int) (r : List (List Int × Int)) : Prop := (∃ v, t = [v] ∧ r = if 0 < v then [(c.map fun _ => 0, v)] else []) ∨
  ∃ v x D ts0, t = [v, x] ∧ 1 ≤ c.sum.toNat ∧ 2 ≤ v ∧ DigOk (v + 1) D ∧ x = hornD (v + 1) D ∧ D.length ≤ 900 ∧ Builtin.Int.intBits x ≤ 4000 ∧ tldP c v D = some ts0 ∧ ∀ ts : List (List Int × Int), ts.Perm ts0 → ts.Pairwise (fun s t => HT.lexLt t.1 s.1 = false) → ts = r
def spTB (K : PySem.W.Frag) (C : Addr) : Sp := fun vs H Q _ => ∃ (m : Nat) (v : V) (as : List (List Int × Int)) (ts : List (List Int)) (rows : List (List (List Int × Int))), vs = [.int (m : Int), v] ∧ AnsL H v as ∧ m ≤ 3 ∧ AnsOk m as ∧ as.length ≤ 100 ∧ run (chs m) ((chs m).map fun _ => []) as = some ts ∧ nextIn (chs m) ts = none ∧
  rows.length = (chs m).length ∧ (∀ (i : Nat) (c t : List Int) (r : List (List Int × Int)), (chs m)[i]? = some c → ts[i]? = some t → rows[i]? = some r → Tells c t r) ∧ Paired (fun ts c => GoodP c ts) rows (chs m) ∧ ∀ (T : Addr) (H' : Hp), Same H H' → TabAt H' C T m rows → Q (.ref T) H'
section
variable {P : Program} {w : World} {K : PySem.W.Frag} {mg : Str → Option Value} {base : Heap} {f f1 f2 f3 f4 : Addr} {fd fd1 fd2 fd3 fd4 : FuncData}
theorem ok_tb {C fI fA : Addr} {dI : FuncData} (F : Fun K "told_by" "told_by" sTB f fd) (T : Bn mg) (Z : TabC K mg C fI fA) (G_Table : FnOk P w K mg base CX0 7 fI dI ["self", "many", "rows"] (spTbI C)) (bI : Binds K dI ["self", "many", "rows"] [])
    (D_values_told : Df K mg "values_told" sTold f1 fd1 ["many", "answers"]) (G_values_told : FnOk P w K mg base CX0 6 f1 fd1 ["many", "answers"] (spTold K)) (D_next_in : Df K mg "next_in" sNext f2 fd2 ["many", "told"]) (G_next_in : FnOk P w K mg base CX0 5 f2 fd2 ["many", "told"] spNext)
    (D_choices : Df K mg "choices" sChs f3 fd3 ["many"]) (G_choices : FnOk P w K mg base CX0 4 f3 fd3 ["many"] spChs) (D_terms_told : Df K mg "terms_told" sTT f4 fd4 ["choice", "values"]) (G_terms_told : FnOk P w K mg base CX0 2 f4 fd4 ["choice", "values"] spTT) : FnOk P w K mg base CX0 9 f fd ["many", "answers"] (spTB K C) := by
  refine F.ok scTB (fun vs H Q E h => ?_) (fun cdv A outer s H vs Q E hr h => ?_)
  · obtain ⟨m, v, as, ts, rows, rfl, _⟩ := h
    rfl
  obtain ⟨m, v, as, ts, rows, rfl, ha, hm, hok, hlen, hrun, hnx, hrl, htl, hgp, q⟩ := h
  refine ⟨_, (pss_cons (ps_set (i := 2) scTB.nd rfl (.inl rfl) (pe_cd D_values_told G_values_told hr (by decide) (pa_cons (pv 0) (pa_cons (pv 1) pa_nil))))
      (pss_cons (ps_if (pt_cmpR op_notN (pe_ix ix_tup (pe_cd D_next_in G_next_in hr (by decide) (pa_cons (pv 0) (pa_cons (pv 2) pa_nil))) pe_int (fun _ _ => rfl)) pe_non (nomark _)) (pss_one ps_never) pss_nil)
      (pss_cons (ps_set (i := 3) scTB.nd rfl (.inl rfl) (pe_lst pa_nil))
      (pss_cons (ps_for PassesOwn.never rfl (pi_zipX rfl T.b_zip (pa_cons (pe_cd D_choices G_choices hr (by decide) (pa_cons (pv 0) pa_nil)) (pa_cons (pv 2) pa_nil))) (pg_tup (by rfl) (pgs_cons (pg_name (i := 4) scTB.nd rfl (.inl rfl)) (pgs_cons (pg_name (i := 5) scTB.nd rfl (.inl rfl)) pgs_nil)))
        (pss_cons (ps_set (i := 6) scTB.nd rfl (.inl rfl) (pe_cd D_terms_told G_terms_told hr (by decide) (pa_cons (pv 4) (pa_cons (pv 5) pa_nil))))
        (pss_cons (ps_if (pt_cmpR op_isN (pv 6) pe_non (nomark _)) (pss_one ps_never) pss_nil)
        (pss_one (ps_expr (pe_bm PySem.F.plainAttrs_list PySem.F.slot_list_append PySem.F.type_list_append mt_append (pv 3) (pa_cons (pv 6) pa_nil)))))))
      (pss_one (ps_ret (pe_make Z.mk_ G_Table (hr.mono (by decide)) rfl Z.mgC bI .nil pass0 (pa_cons (pv 0) (pa_cons (pv 3) pa_nil))))))))), ?_⟩
  refine ⟨_, rfl, _, rfl, m, v, as, ts, rfl, ha, hm, hok, hlen, hrun, fun l H1 s1 ht => ?_⟩
  refine ⟨_, rfl, _, rfl, m, l, ts, rfl, hm, ht, fun _ p1 H2 s2 hp1 => ?_, fun i r p u H' e => nomatch hnx.symm.trans e⟩
  refine ⟨p1, _, _, _, rfl, rfl, SqT.of hp1, rfl, rfl, _, rfl, iteF ⟨Nat.zero_le _, fun L hL => ?_⟩⟩
  have s02 := s1.trans s2
  have L0 : H L = none := s02.free hL
  have s3 : Same H1 (L2.upd H2 L (.lst [])) := s2.trans (new_same hL)
  have hL3 : (L2.upd H2 L (.lst [])) L = some (.lst []) := upd_same
  generalize L2.upd H2 L (.lst []) = H3 at s3 hL3 ⊢
  have s03 := s1.trans s3
  obtain ⟨ls, hl, pls, pok⟩ := ht
  refine ⟨_, rfl, m, rfl, hm, fun p2 rs2 H4 s4 hp2 prs => ?_⟩
  have s34 := s3.trans s4
  refine ⟨_, rfl, p2, l, rs2, ls, rfl, SqX.of (.inr hp2), SqX.of (.inl (s34 _ _ hl)), fun J G0 wk hGG => ?_⟩
  have lrs := TG.paired_len prs
  have lls := TG.paired_len pls
  have lts := TG.paired_len pok
  have hL4 := s4 _ _ hL3
  have pL : p2 ≠ L := fun e => by
    rw [e, hL4] at hp2
    cases hp2
  have lL : l ≠ L := fun e => by
    rw [e] at hl
    exact absurd (s2 _ _ hl) (by rw [hL]; exact fun c => nomatch c)
  have hl4 := s34 _ _ hl
  refine for_it wk (fun i σ G => ∃ (es : List V) (v4 v5 v6 : Option V), σ = [some (.int (m : Int)), some v, some (.ref l), some (.ref L), v4, v5, v6] ∧ (∀ b o, b ≠ L → H4 b = some o → G b = some o) ∧ G L = some (.lst es) ∧ Paired (fun e r => TermsV G e r ∧ e ≠ .ref L) es (rows.take i)) ?_ ?_ ?_ ?_
  · exact ⟨[], none, none, none, rfl, fun b o _ e => e, hL4, .nil⟩
  · rintro i σ G _ ⟨_, _, _, _, _, kp, _⟩
    refine hGG G (fun o ho => kp _ _ pL ho) fun o ho => kp _ _ lL ho
  · rintro i x σ G G5 hi ⟨es, v4, v5, v6, rfl, kp, hLG, pes⟩ ⟨t0, x1, y1, rfl, ht0, rfl, e1, e2⟩
    obtain ⟨c, g1, ca, rfl, hca⟩ := TG.paired_get prs e1
    obtain ⟨t, g2, la, rfl, hla⟩ := TG.paired_get pls e2
    have rAt : ∃ r, rows[i]? = some r := ⟨_, List.getElem?_eq_getElem (by rw [hrl]; exact lt_get g1)⟩
    obtain ⟨r, hr0⟩ := rAt
    have s5 := new_same (o := .tup [.ref ca, .ref la]) ht0
    have ca_ne : ca ≠ L := fun e => by
      rw [e, hL4] at hca
      cases hca
    have la_ne : la ≠ L := fun e => by
      have z := s2 _ _ hla
      rw [e, hL] at z
      cases z
    refine ⟨t0, _, rfl, SqT.of upd_same, rfl, _, _, rfl, _, _, rfl, rfl, ?_⟩
    have hca5 := s5 _ _ (kp _ _ ca_ne hca)
    have hla5 := s5 _ _ (kp _ _ la_ne (s34 _ _ hla))
    generalize L2.upd G t0 (.tup [.ref ca, .ref la]) = G5 at s5 hca5 hla5 ⊢
    obtain ⟨okc1, okc2⟩ := (chs_ok m hm).2.2 c (List.mem_of_getElem? g1)
    obtain ⟨t', g2', okt⟩ := TG.paired_get pok g1
    cases Option.some.inj (g2.symm.trans g2')
    have key : ∀ (W : VK) (E' : XK), (∀ (u : V) (H' : Hp), Same G5 H' → NewT G5 H' u r → W u H') → spTT [.ref ca, .ref la] G5 W E' := by
      intro W E' hW
      refine ⟨ca, la, c, t, rfl, hca5, hla5, okc2, by omega, okt, ?_⟩
      rcases htl i c t r g1 g2 hr0 with ⟨v, rfl, rfl⟩ | ⟨v, x, D, ts0, rfl, k1, k2, k3, k4, k5, k6, k7, k8⟩
      · exact .inl ⟨v, rfl, hW⟩
      · refine .inr ⟨v, x, D, rfl, k1, k2, k3, k4, k5, k6, fun e => (nomatch k7.symm.trans e), fun ts1 ts2 u H' e hp hs sm hu => ?_⟩
        cases Option.some.inj (k7.symm.trans e)
        cases k8 _ hp hs
        exact hW u H' sm hu
    refine ⟨_, rfl, _, rfl, key _ E fun u G6 s6 hu => ?_⟩
    have hL5 := s5 _ _ hLG
    have hL6 := s6 _ _ hL5
    obtain ⟨⟨ua, rfl, hua⟩, hut⟩ := id hu
    have uL : ua ≠ L := fun e => by
      rw [e, hL5] at hua
      cases hua
    have llen := TG.paired_len pes
    refine ⟨_, rfl, rfl, _, rfl, iteF ⟨_, rfl, .inl ⟨rfl, _, SqL.of hL6⟩, _, rfl, L, es, _, rfl, rfl, hL6, small1000 (by rw [llen, List.length_take]; have := (chs_ok m hm).1; omega), ?_⟩⟩
    refine ⟨es ++ [.ref ua], _, _, _, rfl, fun b o hb e => by rw [upd_ne hb]; exact s6 _ _ (s5 _ _ (kp _ _ hb e)), upd_same, ?_⟩
    rw [List.take_succ, hr0]
    exact paired_snoc ⟨hu.updL hL5 hL6, fun z => uL (by injection z)⟩ (paired_imp (fun _ _ h => ⟨((h.1.same s5).same s6).updL2 hL6 h.2, h.2⟩) pes)
  · rintro σ G ⟨es, v4, v5, v6, rfl, kp, hLG, pes⟩
    have sg : Same H G := fun b o e => kp _ _ (fun z => by rw [z, L0] at e; cases e) (s4 _ _ (s03 _ _ e))
    rw [show min rs2.length ls.length = rows.length from by omega, List.take_length] at pes
    refine ⟨_, rfl, _, rfl, fun p dx hp hdx hne => ?_⟩
    have sM : Same G (L2.upd (L2.upd G dx (.own p)) p (.ins C dx [])) := (new_same hdx).trans (new_same ((upd_ne (Ne.symm hne)).trans hp))
    refine ⟨p, dx, m, .ref L, rows, rfl, upd_same, hm, ⟨L, es, rfl, .inl (sM _ _ hLG), paired_imp (fun _ _ h => h.1.same sM) pes⟩, hgp, fun H' k1 tab => ⟨rfl, q p H' (fun b o e => k1 _ _ (fun z => ?_) (sM _ _ (sg _ _ e))) tab⟩⟩
    have z2 := sg _ _ e
    rw [z, hp] at z2
    cases z2
end
end TF52
set_option maxHeartbeats 400000
/-! the rows of a table as data -/
namespace TG
open PySem PySem.Spec L2 PySem.W
open PyProof.Rows hiding St
theorem dp_by {K : PySem.W.Frag} {H : Hp} {α : Type} {R : V → α → Prop} {f : α → PyData} (h : ∀ v a, R v a → Dp K H v (f a)) : ∀ {vs : List V} {as : List α}, Paired R vs as → DpAll K H vs (as.map f)
  | _, _, .nil => .nil
  | _, _, .cons r t => .cons (h _ _ r) (dp_by h t)
theorem termsT_dp {K : PySem.W.Frag} {H : Hp} {v : V} {ts : List (List Int × Int)} (h : TermsT H v ts) : Dp K H v (polyD ts) := by
  obtain ⟨a, es, rfl, h1, h2⟩ := h
  exact .tup (SqT.of h1) (dp_by (R := TermH H) (f := termD) (fun _ _ => TermH.dp) h2)
theorem rowsT_dp {K : PySem.W.Frag} {H : Hp} {r : Addr} {rs : List V} {rows : List (List (List Int × Int))} (h : H r = some (.tup rs)) (t : Paired (TermsT H) rs rows) : Dp K H (.ref r) (rowsD rows) :=
  .tup (SqT.of h) (dp_by (R := TermsT H) (f := polyD) (fun _ _ => termsT_dp) t)
theorem lay_all {α : Type} {f : α → PyData} (h : ∀ a, (f a).canLay0 = true) : ∀ l : List α, PyData.canLayAll0 (l.map f) = true
  | [] => rfl
  | a :: l => by
    show ((f a).canLay0 && PyData.canLayAll0 (l.map f)) = true
    rw [h, lay_all h l]
    rfl
theorem dep_all {α : Type} {f : α → PyData} {n : Nat} (h : ∀ a, (f a).depth ≤ n) : ∀ l : List α, PyData.depthAll (l.map f) ≤ n
  | [] => Nat.zero_le _
  | a :: l => Nat.max_le.mpr ⟨h a, dep_all h l⟩
theorem eqv_all {α : Type} {f : α → PyData} (h : ∀ a, PyData.eqv (f a) (f a) = true) : ∀ l : List α, PyData.eqvAll (l.map f) (l.map f) = true
  | [] => rfl
  | a :: l => by
    rw [List.map_cons, eqv_all_cons, h, eqv_all h l]
    rfl
theorem rowsD_lay (rows : List (List (List Int × Int))) : (rowsD rows).canLay0 = true :=
  lay_all (f := polyD) (fun ts => lay_all (f := termD) (fun t => by
    show ((intsD t.1).canLay0 && (PyData.canLay0 (.int t.2) && PyData.canLayAll0 [])) = true
    rw [show (intsD t.1).canLay0 = true from lay_all (f := PyData.int) (fun _ => rfl) t.1]
    rfl) ts) rows
theorem rowsD_depth (rows : List (List (List Int × Int))) : (rowsD rows).depth ≤ 10 := by
  show PyData.depthAll (rows.map polyD) + 1 ≤ 10
  have := dep_all (f := polyD) (n := 9) (fun ts => by
    show PyData.depthAll (ts.map termD) + 1 ≤ 9
    have := dep_all (f := termD) (n := 8) (fun t => by
      have h := ints_depth t.1
      show max (PyData.depthAll (t.1.map PyData.int) + 1) (max 0 0) + 1 ≤ 8
      omega) ts
    omega) rows
  omega
theorem rowsD_eqv (rows : List (List (List Int × Int))) : PyData.eqv (rowsD rows) (rowsD rows) = true := by
  show PyData.eqvAll (rows.map polyD) (rows.map polyD) = true
  refine eqv_all (fun ts => ?_) rows
  show PyData.eqvAll (ts.map termD) (ts.map termD) = true
  refine eqv_all (fun t => ?_) ts
  show (PyData.eqv (intsD t.1) (intsD t.1) && (PyData.eqv (.int t.2) (.int t.2) && true)) = true
  rw [show PyData.eqv (intsD t.1) (intsD t.1) = true from eqv_all (f := PyData.int) (fun a => by simp [PyData.eqv]) t.1]
  simp [PyData.eqv]
end TG
namespace TF52
open PySem PySem.Spec L2 TG TA
open PyProof.Rows hiding St
/-! ### tables compared -/
abbrev sTbE : Stmt := inClass (top 59) 1
theorem scTbE : FnScope ["self", "other"] ["self", "other"] (defScope sTbE) := ⟨rfl, rfl, rfl, by decide +kernel, rfl, by decide +kernel, by decide +kernel⟩
/-- two tables of the same rows -/
def TabTwo (C a b : Addr) (H : Hp) : Prop := ∃ (m : Nat) (rows : List (List (List Int × Int))), TabAt H C a m rows ∧ TabAt H C b m rows
section
variable {P : Program} {w : World} {K : PySem.W.Frag} {mg : Str → Option Value} {base : Heap} {f : Addr} {fd : FuncData}
theorem ok_tbE {C fI fA : Addr} (F : Fun K "__eq__" "Table.__eq__" sTbE f fd) (T : Bn mg) (Z : TabC K mg C fI fA) : FnOk P w K mg base CX0 2 f fd ["self", "other"] (spEq (TabTwo C)) := by
  refine F.ok scTbE (fun vs H Q E h => ?_) (fun cdv A outer s H vs Q E hr h => ?_)
  · obtain ⟨a, b, rfl, _⟩ := h
    rfl
  obtain ⟨a, b, rfl, ⟨m, rows, ⟨dx, ra, rsa, pa, ha, ta⟩, ⟨dy, rb, rsb, pb, hb, tb⟩⟩, q⟩ := h
  refine ⟨_, (pss_one (ps_ret (pe_and (pe_cmpR op_isOne (pe_callTy NwS.call_typeC (by rfl) T.b_type (by decide +kernel) (pa_cons (pv 0) pa_nil)) (pe_callTy NwS.call_typeC (by rfl) T.b_type (by decide +kernel) (pa_cons (pv 1) pa_nil)) (nomark _)) (pe_and (pe_cmpR op_eq (pe_fld (pv 0) (by rfl)) (pe_fld (pv 1) (by rfl)) (nomark _)) (pe_one (pe_cmpR (op_eqDD (room_dd hr)) (pe_fld (pv 0) (by rfl)) (pe_fld (pv 1) (by rfl)) (nomark _))))))), ?_⟩
  refine ⟨_, rfl, a, C, rfl, NwS.OfCls.ins pa, _, rfl, b, C, rfl, NwS.OfCls.ins pb, C, rfl, rfl, true, rfl, ?_⟩
  refine ⟨_, rfl, a, C, dx, _, _, rfl, pa, Z.cl, Z.nM, rfl, _, rfl, b, C, dy, _, _, rfl, pb, Z.cl, Z.nM, rfl, rfl, true, ?_, ?_⟩
  · exact congrArg V.bl (decide_eq_true rfl)
  refine iteT ⟨_, rfl, a, C, dx, _, _, rfl, pa, Z.cl, Z.nR, rfl, _, rfl, b, C, dy, _, _, rfl, pb, Z.cl, Z.nR, rfl, ?_⟩
  have dd := rowsD_depth rows
  refine ⟨rowsD rows, rowsD rows, rowsT_dp ha ta, rowsT_dp hb tb, rowsD_lay rows, rowsD_lay rows, by omega, ?_⟩
  rw [rowsD_eqv]
  exact q H (fun _ _ e => e)
end
end TF52
set_option maxHeartbeats 400000
namespace TF52
open PySem PySem.Spec L2 TG TA
open PyProof.Rows hiding St
/-! ### powers, worth, digits by own reckoning -/
abbrev sPo : Stmt := top 82
abbrev sWo : Stmt := top 84
abbrev sDi : Stmt := top 85
theorem scPo : FnScope ["number", "times", "found", "turn"] ["number", "times"] (defScope sPo) := ⟨rfl, rfl, rfl, by decide +kernel, rfl, by decide +kernel, by decide +kernel⟩
theorem scWo : FnScope ["shares", "number", "total", "share"] ["shares", "number"] (defScope sWo) := ⟨rfl, rfl, rfl, by decide +kernel, rfl, by decide +kernel, by decide +kernel⟩
theorem scDi : FnScope ["number", "base", "found", "left", "turn"] ["number", "base"] (defScope sDi) := ⟨rfl, rfl, rfl, by decide +kernel, rfl, by decide +kernel, by decide +kernel⟩
def spPo : Sp := fun vs H Q _ => ∃ n : Nat, vs = [.int 2, .int (n : Int)] ∧ n ≤ 100 ∧ Q (.int (2 ^ n)) H
/-- shares: at most 60, at most 10 ** 18 each -/
def ShOk (ds : List Int) : Prop := ds.length ≤ 60 ∧ ∀ d ∈ ds, 0 ≤ d ∧ d ≤ 1000000000000000000
def spWo : Sp := fun vs H Q _ => ∃ (a : Addr) (ds : List Int) (x : Int), vs = [.ref a, .int x] ∧ H a = some (.lst (ds.map V.int)) ∧ ShOk ds ∧ 0 ≤ x ∧ x ≤ 2 ^ 60 ∧ ∀ H', Same H H' → Q (.int (hornD x ds)) H'
theorem horn_bd {x : Int} (h0 : 0 ≤ x) (h1 : x ≤ 2 ^ 60) : ∀ {ds : List Int}, (∀ d ∈ ds, 0 ≤ d ∧ d ≤ 1000000000000000000) → 0 ≤ hornD x ds ∧ hornD x ds < 2 ^ (61 * ds.length + 1)
  | [], _ => ⟨Int.le_refl _, by show (0 : Int) < 2 ^ 1; decide⟩
  | d :: ds, h => by
    obtain ⟨i0, i1⟩ := horn_bd h0 h1 (ds := ds) fun y hy => h y (List.mem_cons_of_mem _ hy)
    have hd := h d List.mem_cons_self
    show 0 ≤ d + x * hornD x ds ∧ d + x * hornD x ds < 2 ^ (61 * (ds.length + 1) + 1)
    have e : (2 : Int) ^ (61 * (ds.length + 1) + 1) = 2 ^ 61 * 2 ^ (61 * ds.length + 1) := by rw [← Int.pow_add]; congr 1; omega
    have m0 : 0 ≤ x * hornD x ds := Int.mul_nonneg h0 i0
    have m1 : x * hornD x ds ≤ 2 ^ 60 * hornD x ds := Int.mul_le_mul_of_nonneg_right h1 i0
    have p1 : (1 : Int) ≤ 2 ^ (61 * ds.length + 1) := by have := pow2_nn (61 * ds.length + 1); omega
    rw [e]
    generalize (2 : Int) ^ (61 * ds.length + 1) = M at *
    have n1 : (2 : Int) ^ 60 = 1152921504606846976 := by decide
    have n2 : (2 : Int) ^ 61 = 2305843009213693952 := by decide
    rw [n1] at m1
    rw [n2]
    omega
theorem nat_of_lt {i : Int} {k : Nat} (h0 : 0 ≤ i) (h : i < 2 ^ k) : i.natAbs < 2 ^ k := by
  have h3 : ((2 ^ k : Nat) : Int) = (2 : Int) ^ k := by rw [Int.natCast_pow]; rfl
  omega
section
variable {P : Program} {w : World} {K : PySem.W.Frag} {mg : Str → Option Value} {base : Heap} {f f1 : Addr} {fd d1 : FuncData}
theorem ok_po (F : Fun K "_law_power" "_law_power" sPo f fd) (T : Bn mg) : FnOk P w K mg base CX0 1 f fd ["number", "times"] spPo := by
  refine F.ok scPo (fun vs H Q E h => ?_) (fun cdv A outer s H vs Q E hr h => ?_)
  · obtain ⟨n, rfl, _⟩ := h
    rfl
  obtain ⟨n, rfl, hn, q⟩ := h
  refine ⟨_, (pss_cons (ps_set (i := 2) scPo.nd rfl (.inl rfl) pe_int)
      (pss_cons (ps_for PassesOwn.never rfl (pi_range1 (by rfl) T.b_range (pa_cons (pv 1) pa_nil)) (pg_name (i := 3) scPo.nd rfl (.inl rfl))
        (pss_one (ps_set (i := 2) scPo.nd rfl (.inl rfl) (pe_op op_mulW (pv 2) (pv 0)))))
      (pss_one (ps_ret (pv 2))))), ?_⟩
  refine ⟨_, rfl, (n : Int), rfl, by omega, by omega, ?_⟩
  refine for_range (lo := 0) (n := (n : Int).toNat) (fun k σ G => ∃ v3, σ = [some (.int 2), some (.int (n : Int)), some (.int (2 ^ k)), v3] ∧ G = H) ⟨_, rfl, rfl⟩ ?_ ?_
  · rintro k σ G hk ⟨v3, rfl, rfl⟩
    refine ⟨_, rfl, _, rfl, _, _, rfl, rfl, wide_mul (a := k + 1) (b := 2) (nat_of_lt (Int.le_of_lt (pow2_nn k)) (by have := pow2_nn k; rw [Int.pow_succ]; omega)) (by decide) (by omega) (by omega) (by omega), _, by rw [Int.pow_succ]; rfl, rfl⟩
  · rintro σ G ⟨v3, rfl, rfl⟩
    exact ⟨_, rfl, q⟩
theorem ok_wo (F : Fun K "_law_worth" "_law_worth" sWo f fd) (T : Bn mg) : FnOk P w K mg base CX0 1 f fd ["shares", "number"] spWo := by
  refine F.ok scWo (fun vs H Q E h => ?_) (fun cdv A outer s H vs Q E hr h => ?_)
  · obtain ⟨a, ds, x, rfl, _⟩ := h
    rfl
  obtain ⟨a, ds, x, rfl, ha, ⟨hl, hd⟩, h0, h1, q⟩ := h
  refine ⟨_, (pss_cons (ps_set (i := 2) scWo.nd rfl (.inl rfl) pe_int)
      (pss_cons (ps_for PassesOwn.never rfl (pi_list (pe_revL (pv 0))) (pg_name (i := 3) scWo.nd rfl (.inl rfl))
        (pss_one (ps_set (i := 2) scWo.nd rfl (.inl rfl) (pe_op op_add (pe_op op_mulW (pv 2) (pv 1)) (pv 3)))))
      (pss_one (ps_ret (pv 2))))), ?_⟩
  refine ⟨_, rfl, a, _, rfl, SqL.of ha, fun p hp => ⟨p, rfl, ⟨_, SqL.of upd_same⟩, ?_⟩⟩
  have s1 := new_same (o := .lst (ds.map V.int).reverse) hp
  refine for_list (K := K) (a := p) (xs := (ds.map V.int).reverse) (fun i σ G => ∃ v3, σ = [some (.ref a), some (.int x), some (.int (hornD x (ds.drop (ds.length - i)))), v3] ∧ Same H G ∧ G p = some (.lst (ds.map V.int).reverse)) ⟨none, by rw [Nat.sub_zero, List.drop_length]; rfl, s1, upd_same⟩ ?_ ?_ ?_
  · rintro i σ G _ ⟨_, _, _, h⟩
    exact SqL.of h
  · rintro i y σ G hy ⟨v3, rfl, sg, hpG⟩
    rw [← List.map_reverse, List.getElem?_map] at hy
    obtain ⟨d, hd', rfl⟩ := Option.map_eq_some_iff.mp hy
    have hi : i < ds.length := by have := lt_get hd'; rw [List.length_reverse] at this; exact this
    rw [List.getElem?_reverse hi] at hd'
    have ed : ds.drop (ds.length - (i + 1)) = d :: ds.drop (ds.length - i) := by
      rw [show ds.length - (i + 1) = ds.length - 1 - i from by omega, List.drop_eq_getElem_cons (lt_get hd'), (List.getElem?_eq_some_iff.mp hd').2]
      congr 2
      omega
    obtain ⟨b0, b1⟩ := horn_bd h0 h1 (ds := ds.drop (ds.length - i)) fun y hy => hd y (List.mem_of_mem_drop hy)
    rw [List.length_drop] at b1
    refine ⟨_, rfl, _, rfl, _, _, rfl, rfl, wide_mul (nat_of_lt b0 b1) (b := 61) (nat_of_lt h0 (Int.lt_of_le_of_lt h1 (by decide))) (by omega) (by omega) (by omega), _, rfl, _, _, rfl, rfl, some (V.int d), ?_, sg, hpG⟩
    rw [ed]
    rw [show hornD x (d :: ds.drop (ds.length - i)) = hornD x (ds.drop (ds.length - i)) * x + d from by show d + x * _ = _; rw [Int.add_comm, Int.mul_comm]]
    rfl
  · rintro σ G ⟨v3, rfl, sg, hpG⟩
    rw [List.length_reverse, List.length_map, Nat.sub_self, List.drop_zero]
    exact ⟨_, rfl, q G sg⟩
theorem hornD_all {b : Int} (hb : 2 ≤ b) : ∀ {D : List Int}, DigOk b D → hornD b D = 0 → ∀ d ∈ D, d = 0
  | [], _, _, d, h => nomatch h
  | x :: D, h, e, d, hd => by
    have h1 := h x List.mem_cons_self
    have h2 : DigOk b D := fun y hy => h y (List.mem_cons_of_mem _ hy)
    have h3 := hornD_nn hb h2
    have e : x + b * hornD b D = 0 := e
    have h4 : 0 ≤ b * hornD b D := Int.mul_nonneg (by omega) h3
    have h5 : b * hornD b D = 0 := by omega
    have h6 : hornD b D = 0 := (Int.mul_eq_zero.mp h5).resolve_left (by omega)
    rcases List.mem_cons.mp hd with rfl | hd
    · omega
    · exact hornD_all hb h2 h6 d hd
def spDi : Sp := fun vs H Q _ => ∃ (x b : Int) (D : List Int), vs = [.int x, .int b] ∧ 2 ≤ b ∧ b ≤ 2 ^ 60 ∧ DigOk b D ∧ x = hornD b D ∧ D.length ≤ 60 ∧ ∀ (n : Nat) (l : Addr) (H' : Hp), n ≤ D.length → (∀ d ∈ D.drop n, d = 0) → Same H H' → H' l = some (.lst ((D.take n).map V.int)) → Q (.ref l) H'
theorem ok_di (F : Fun K "_law_digits" "_law_digits" sDi f fd) (T : Bn mg) : FnOk P w K mg base CX0 1 f fd ["number", "base"] spDi := by
  refine F.ok scDi (fun vs H Q E h => ?_) (fun cdv A outer s H vs Q E hr h => ?_)
  · obtain ⟨x, b, D, rfl, _⟩ := h
    rfl
  obtain ⟨x, b, D, rfl, hb, hb2, hD, hx, hl, q⟩ := h
  refine ⟨_, (pss_cons (ps_par (i := 2) (j := 3) (by rfl) scDi.nd rfl rfl (by decide) rfl rfl (pa_cons (pe_lst pa_nil) (pa_cons (pv 0) pa_nil)) (by rfl))
      (pss_cons (ps_for PassesOwn.never rfl (pi_range1 (by rfl) T.b_range (pa_cons pe_int pa_nil)) (pg_name (i := 4) scDi.nd rfl (.inl rfl))
        (pss_one (ps_if (pt_cmpR op_gt (pv 3) pe_int (nomark _)) (pss_cons (ps_expr (pe_bm PySem.F.plainAttrs_list PySem.F.slot_list_append PySem.F.type_list_append mt_append (pv 2) (pa_cons (pe_op op_modN (pe_callTy call_int1 (by rfl) T.b_int (by decide +kernel) (pa_cons (pv 3) pa_nil)) (pv 1)) pa_nil)))
          (pss_one (ps_set (i := 3) scDi.nd rfl (.inl rfl) (pe_op op_fdivW (pe_callTy call_int1 (by rfl) T.b_int (by decide +kernel) (pa_cons (pv 3) pa_nil)) (pv 1))))) pss_nil)))
      (pss_one (ps_ret (pe_ifExp (pt_cmpR op_eq (pv 3) pe_int (nomark _)) (pv 2) pe_non))))), ?_⟩
  refine ⟨Nat.zero_le _, fun L hL => ⟨_, rfl, _, _, rfl, 80, rfl, by decide, by decide, ?_⟩⟩
  have s1 := new_same (o := .lst []) hL
  refine for_range (lo := 0) (n := (80 : Int).toNat) (fun i σ G => ∃ (j : Nat) (v4 : Option V), σ = [some (.int x), some (.int b), some (.ref L), some (.int (hornD b (D.drop j))), v4] ∧ Same H G ∧ G L = some (.lst ((D.take j).map V.int)) ∧ j ≤ D.length ∧ (0 < hornD b (D.drop j) → j = i)) ⟨0, none, by rw [hx]; rfl, s1, upd_same, Nat.zero_le _, fun _ => rfl⟩ ?_ ?_
  · rintro i σ G hi ⟨j, v4, rfl, sg, hg, hj, hji⟩
    refine ⟨_, rfl, _, _, rfl, rfl, _, rfl, ?_⟩
    cases hp : decide ((0 : Int) < hornD b (D.drop j)) with
    | false => exact iteF ⟨j, _, rfl, sg, hg, hj, fun h => absurd h (of_decide_eq_false hp)⟩
    | true =>
      have hp := of_decide_eq_true hp
      have e := hji hp
      subst e
      have jl : j < D.length := by
        rcases Nat.lt_or_ge j D.length with h | h
        · exact h
        · rw [List.drop_of_length_le h] at hp
          exact absurd hp (Int.lt_irrefl 0)
      have ed : D.drop j = D[j] :: D.drop (j + 1) := List.drop_eq_getElem_cons jl
      have dok : DigOk b (D[j] :: D.drop (j + 1)) := by rw [← ed]; exact fun d hd => hD d (List.mem_of_mem_drop hd)
      obtain ⟨e1, e2⟩ := hornD_div hb dok
      rw [← ed] at e1 e2
      have snoc : (D.take j).map V.int ++ [V.int D[j]] = (D.take (j + 1)).map V.int := by rw [List.take_succ, List.getElem?_eq_getElem jl, List.map_append]; rfl
      refine iteT ⟨_, rfl, .inl ⟨rfl, _, SqL.of hg⟩, _, rfl, .inl ⟨_, rfl, _, rfl, _, _, rfl, rfl, by omega, L, _, _, rfl, rfl, hg, small1000 (by rw [List.length_map, List.length_take]; omega), ?_⟩⟩
      have fm : (hornD b (D.drop j)).fmod b = D[j] := by rw [Int.fmod_eq_emod_of_nonneg _ (by omega), e2]
      dsimp only
      rw [fm, snoc]
      refine ⟨_, rfl, .inl ⟨_, rfl, _, rfl, _, _, rfl, rfl, wide_div (by omega) (b := 61) (nat_of_lt (by omega) (Int.lt_of_le_of_lt hb2 (by decide))) (by omega) (by omega), ?_⟩⟩
      dsimp only
      rw [e1]
      exact ⟨j + 1, _, rfl, same_put sg hL, upd_same, by omega, fun _ => rfl⟩
  · rintro σ G ⟨j, v4, rfl, sg, hg, hj, hji⟩
    refine ⟨_, rfl, rfl, _, rfl, ?_⟩
    have z : hornD b (D.drop j) = 0 := by
      have h0 := hornD_nn hb (D := D.drop j) fun d hd => hD d (List.mem_of_mem_drop hd)
      rcases Int.lt_or_le 0 (hornD b (D.drop j)) with h | h
      · have := hji h
        have e : (80 : Int).toNat = 80 := rfl
        omega
      · omega
    rw [z, show decide (V.int 0 = V.int 0) = true from rfl]
    exact iteT ⟨_, rfl, q j L G hj (hornD_all hb (fun d hd => hD d (List.mem_of_mem_drop hd)) z) sg hg⟩
end
end TF52
set_option maxHeartbeats 400000
namespace TF52
open PySem PySem.Spec L2 TG TA
open PyProof.Rows hiding St
/-! ### shares drawn -/
abbrev sSh : Stmt := top 83
theorem scSh : FnScope ["tub", "found", "total", "turn", "power", "share"] ["tub"] (defScope sSh) := ⟨rfl, rfl, rfl, by decide +kernel, rfl, by decide +kernel, by decide +kernel⟩
theorem horn_set (b : Int) : ∀ {ds : List Int} {j : Nat} {d : Int} (s : Int), ds[j]? = some d → hornD b (ds.set j (d + s)) = hornD b ds + s * b ^ j
  | [], _, _, _, h => nomatch h
  | x :: ds, 0, d, s, h => by
    cases Option.some.inj h
    show x + s + b * hornD b ds = x + b * hornD b ds + s * b ^ 0
    rw [Int.pow_zero, Int.mul_one]
    omega
  | x :: ds, j + 1, d, s, h => by
    show x + b * hornD b (ds.set j (d + s)) = x + b * hornD b ds + s * b ^ (j + 1)
    rw [horn_set b (ds := ds) (j := j) s h, Int.mul_add, Int.pow_succ]
    have e : b * (s * b ^ j) = s * (b ^ j * b) := by rw [Int.mul_left_comm, Int.mul_comm b]
    omega
theorem horn_ge : ∀ {ds : List Int}, (∀ d ∈ ds, 0 ≤ d) → 0 ≤ hornD 2 ds ∧ ∀ d ∈ ds, d ≤ hornD 2 ds
  | [], _ => ⟨Int.le_refl _, fun d h => nomatch h⟩
  | x :: ds, h => by
    obtain ⟨i0, i1⟩ := horn_ge (ds := ds) fun y hy => h y (List.mem_cons_of_mem _ hy)
    have hx := h x List.mem_cons_self
    refine ⟨by show 0 ≤ x + 2 * hornD 2 ds; omega, fun d hd => ?_⟩
    show d ≤ x + 2 * hornD 2 ds
    rcases List.mem_cons.mp hd with rfl | hd
    · omega
    · have := i1 d hd
      omega
/-- what is drawn: 60 shares, worth at most 10 ** 18 at 2 -/
def ShW (ds : List Int) : Prop := ds.length = 60 ∧ (∀ d ∈ ds, 0 ≤ d) ∧ hornD 2 ds ≤ 1000000000000000000
theorem ShW.ok {ds : List Int} (h : ShW ds) : ShOk ds := ⟨Nat.le_of_eq h.1, fun d hd => ⟨h.2.1 d hd, Int.le_trans ((horn_ge h.2.1).2 d hd) h.2.2⟩⟩
def spSh : Sp := fun vs H Q _ => ∃ (p c : Addr) (n : Nat), vs = [.ref p] ∧ PenAt n H p c ∧ n ≤ 10000 ∧ ∀ (ds : List Int) (l : Addr) (H' : Hp), ShW ds → H l = none → Keep p H H' → PenAt (n + 25) H' p c → H' l = some (.lst (ds.map V.int)) → Q (.ref l) H'
section
variable {P : Program} {w : World} {K : PySem.W.Frag} {mg : Str → Option Value} {base : Heap} {f f1 f2 f3 : Addr} {fd d1 d2 d3 : FuncData}
theorem ok_sh (F : Fun K "_law_shares" "_law_shares" sSh f fd) (T : Bn mg) (D__law_dip : Df K mg "_law_dip" sDraw f1 d1 ["tub", "many"]) (G__law_dip : FnOk P w K mg base CX0 1 f1 d1 ["tub", "many"] spDraw) (D__law_pick : Df K mg "_law_pick" sPick f2 d2 ["tub", "some"]) (G__law_pick : FnOk P w K mg base CX0 2 f2 d2 ["tub", "some"] (spPick K))
    (D__law_power : Df K mg "_law_power" sPo f3 d3 ["number", "times"]) (G__law_power : FnOk P w K mg base CX0 1 f3 d3 ["number", "times"] spPo) : FnOk P w K mg base CX0 3 f fd ["tub"] spSh := by
  refine F.ok scSh (fun vs H Q E h => ?_) (fun cdv A outer s H vs Q E hr h => ?_)
  · obtain ⟨p, c, n, rfl, _⟩ := h
    rfl
  obtain ⟨p, c, n, rfl, hp, hn, q⟩ := h
  refine ⟨_, (pss_cons (ps_par (i := 1) (j := 2) (by rfl) scSh.nd rfl rfl (by decide) rfl rfl (pa_cons (pe_op op_rep (pe_lst (pa_cons pe_int pa_nil)) pe_int) (pa_cons pe_int pa_nil)) (by rfl))
      (pss_cons (ps_for PassesOwn.never rfl (pi_range1 (by rfl) T.b_range (pa_cons (pe_cd D__law_dip G__law_dip hr (by decide) (pa_cons (pv 0) (pa_cons pe_int pa_nil))) pa_nil)) (pg_name (i := 3) scSh.nd rfl (.inl rfl))
        (pss_cons (ps_set (i := 4) scSh.nd rfl (.inl rfl) (pe_cd D__law_dip G__law_dip hr (by decide) (pa_cons (pv 0) (pa_cons (pe_cd D__law_pick G__law_pick hr (by decide) (pa_cons (pv 0) (pa_cons (pe_lst (pa_cons pe_int (pa_cons pe_int (pa_cons pe_int (pa_cons pe_int pa_nil))))) pa_nil))) pa_nil))))
        (pss_cons (ps_set (i := 5) scSh.nd rfl (.inl rfl) (pe_op op_add pe_int (pe_cd D__law_dip G__law_dip hr (by decide) (pa_cons (pv 0) (pa_cons (pe_cd D__law_pick G__law_pick hr (by decide) (pa_cons (pv 0) (pa_cons (pe_lst (pa_cons pe_int (pa_cons pe_int (pa_cons pe_int (pa_cons (pe_op op_pow pe_int pe_int) pa_nil))))) pa_nil))) pa_nil)))))
        (pss_one (ps_if (pt_cmpR op_le (pe_op op_add (pv 2) (pe_op op_mulW (pv 5) (pe_cd D__law_power G__law_power hr (by decide) (pa_cons pe_int (pa_cons (pv 4) pa_nil))))) (pe_op op_pow pe_int pe_int) (nomark _)) (pss_cons (ps_asg (pe_op op_add (pe_ix ix_list (pv 1) (pv 4) (fun _ _ => rfl)) (pv 5)) (pg_sub (pv 1) (pv 4) set_list))
          (pss_one (ps_set (i := 2) scSh.nd rfl (.inl rfl) (pe_op op_add (pv 2) (pe_op op_mulW (pv 5) (pe_cd D__law_power G__law_power hr (by decide) (pa_cons pe_int (pa_cons (pv 4) pa_nil)))))))) pss_nil)))))
      (pss_one (ps_ret (pv 1))))), ?_⟩
  refine ⟨by show 1 ≤ sizeLine; decide, fun L0 hL0 => ⟨L0, 60, _, rfl, rfl, upd_same, by decide, by decide, by decide, fun L hL => ?_⟩⟩
  have s1 := (new_same (o := .lst [.int 0]) hL0).trans (new_same (o := .lst (List.replicate (60 : Int).toNat [V.int 0]).flatten) hL)
  have hLn : H L = none := (new_same (o := .lst [.int 0]) hL0).free hL
  have hL1 : (L2.upd (L2.upd H L0 (.lst [.int 0])) L (.lst (List.replicate (60 : Int).toNat [V.int 0]).flatten)) L = some (.lst ((List.replicate 60 (0 : Int)).map V.int)) := by rw [upd_same]; rfl
  generalize L2.upd (L2.upd H L0 (.lst [.int 0])) L (.lst (List.replicate (60 : Int).toNat [V.int 0]).flatten) = H1 at s1 hL1 ⊢
  have hp1 := hp.same s1
  have L_p := hp.ne hLn
  have L_c := hp.ne2 hLn
  refine ⟨_, _, rfl, _, rfl, p, c, _, n, rfl, hp1, by omega, Dv.of (by omega) (by omega), fun r H2 r0 r1 k2 hp2 => ?_⟩
  obtain ⟨k, rfl⟩ := Int.eq_ofNat_of_zero_le r0
  have k7 : k ≤ 6 := by omega
  refine ⟨(k : Int), rfl, by omega, by omega, ?_⟩
  have kL2 := k2 L _ L_p hL1
  have hw0 : ShW (List.replicate 60 0) := ⟨rfl, fun d hd => by rw [List.eq_of_mem_replicate hd]; decide, by decide +kernel⟩
  refine for_range (lo := 0) (n := k) (fun i σ G => ∃ (ds : List Int) (v3 v4 v5 : Option V), σ = [some (.ref p), some (.ref L), some (.int (hornD 2 ds)), v3, v4, v5] ∧ PenAt (n + 1 + 4 * i) G p c ∧ Keep p H G ∧ G L = some (.lst (ds.map V.int)) ∧ ShW ds) ⟨List.replicate 60 0, none, none, none, rfl, hp2, (Keep.of_same s1).trans k2, kL2, hw0⟩ ?_ ?_
  · rintro i σ G hi ⟨ds, v3, v4, v5, rfl, hpi, kG, hg, hw⟩
    refine ⟨_, rfl, _, rfl, (by show 4 ≤ sizeLine; decide), fun l1 hl1 => ?_⟩
    have x1 := new_same (o := .lst [.int 4, .int 12, .int 60, .int 2]) hl1
    refine ⟨p, c, l1, _, n + 1 + 4 * i, rfl, hpi.same x1, by omega, hpi.ne hl1, upd_same, List.cons_ne_nil _ _, by show 4 ≤ 1000000; decide, fun v G1 hv k3 hp3 => ?_⟩
    obtain ⟨z, rfl, z1, z2⟩ : ∃ z : Int, v = .int z ∧ 1 ≤ z ∧ z ≤ 60 := by
      simp only [List.mem_cons, List.not_mem_nil, or_false] at hv
      rcases hv with rfl | rfl | rfl | rfl <;> exact ⟨_, rfl, by decide, by decide⟩
    refine ⟨p, c, z, _, rfl, hp3, by omega, Dv.of (by omega) (by omega), fun r G2 r0' r1' k4 hp4 => ?_⟩
    have hg2 := k4 L _ L_p (k3 L _ L_p (x1 _ _ hg))
    have kG2 := ((kG.trans (Keep.of_same x1)).trans k3).trans k4
    obtain ⟨j, rfl⟩ := Int.eq_ofNat_of_zero_le r0'
    have j60 : j < 60 := by omega
    clear hg kG hpi x1 hl1 hv k3 hp3 k4
    refine ⟨_, rfl, _, rfl, _, _, rfl, rfl, ⟨by decide, by decide, by decide⟩, (by show 4 ≤ sizeLine; decide), fun l2 hl2 => ?_⟩
    have hl2 : G2 l2 = none := hl2
    have x2 : Same G2 (L2.upd G2 l2 (.lst [.int 1, .int 9, .int 1000, .int (10 ^ Int.toNat 12)])) := new_same hl2
    refine ⟨p, c, l2, _, n + 3 + 4 * i, rfl, (hp4.up (by omega)).same x2, by omega, hp4.ne hl2, upd_same, List.cons_ne_nil _ _, by show 4 ≤ 1000000; decide, fun v G3 hv k5 hp5 => ?_⟩
    obtain ⟨y, rfl, y1, y2⟩ : ∃ y : Int, v = .int y ∧ 1 ≤ y ∧ y ≤ 1000000000000 := by
      simp only [List.mem_cons, List.not_mem_nil, or_false] at hv
      rcases hv with rfl | rfl | rfl | rfl <;> exact ⟨_, rfl, by decide, by decide⟩
    have dy : Dv y := ⟨by omega, by
      have z : y.natAbs < 2 ^ 41 := by omega
      have e := (Nat.log2_lt (n := y.natAbs) (k := 41) (by omega)).mpr z
      omega⟩
    refine ⟨p, c, y, _, rfl, hp5, by omega, dy, fun r G4 r0 r1 k6 hp6 => ?_⟩
    have hg4 := k6 L _ L_p (k5 L _ L_p (x2 _ _ hg2))
    have kG4 := ((kG2.trans (Keep.of_same x2)).trans k5).trans k6
    clear hg2 kG2 hp4 x2 hl2 hv k5 hp5 k6 dy
    obtain ⟨dl, d0, dw⟩ := id hw
    have pw : (2 : Int) ^ j ≤ 2 ^ 59 := pow2_le (by omega)
    have pp := pow2_nn j
    have n59 : (2 : Int) ^ 59 = 576460752303423488 := by decide
    have jd : ∃ d, ds[j]? = some d := ⟨_, List.getElem?_eq_getElem (by omega)⟩
    obtain ⟨d, hd⟩ := jd
    refine ⟨_, _, rfl, rfl, _, rfl, _, rfl, ?_⟩
    dsimp only
    obtain ⟨sh, es⟩ : ∃ sh : Int, sh = 1 + r := ⟨_, rfl⟩
    rw [← es]
    have n60 : (2 : Int) ^ 60 = 1152921504606846976 := by decide
    have cm : CMulW sh (2 ^ j) := wide_mul (a := 41) (b := 60) (by omega) (nat_of_lt (Int.le_of_lt pp) (by rw [n60]; omega)) (by omega) (by omega) (by omega)
    refine ⟨_, rfl, j, rfl, by omega, _, _, rfl, rfl, cm, _, _, rfl, rfl, _, _, rfl, rfl, ⟨by decide, by decide, by decide⟩, _, _, rfl, rfl, _, rfl, ?_⟩
    cases hc : decide (hornD 2 ds + sh * 2 ^ j ≤ 10 ^ Int.toNat 18) with
    | false =>
      refine iteF ⟨ds, _, _, _, rfl, hp6.up (by omega), kG4, hg4, hw⟩
    | true =>
      have hc := of_decide_eq_true hc
      have t18 : (10 : Int) ^ Int.toNat 18 = 1000000000000000000 := by decide
      rw [t18] at hc
      have hs := horn_set 2 sh hd
      have hw2 : ShW (ds.set j (d + sh)) := ⟨by rw [List.length_set]; exact dl, fun x hx => by
        rcases List.mem_or_eq_of_mem_set hx with h | rfl
        · exact d0 x h
        · have := d0 d (List.mem_of_getElem? hd)
          omega, by rw [hs]; exact hc⟩
      have hix : atI (ds.map V.int) (j : Int) = some (.int d) := atI_nat (j := j) (by rw [List.getElem?_map, hd]; rfl)
      refine iteT ⟨_, rfl, _, rfl, L, _, _, _, rfl, rfl, SqL.of hg4, hix, _, rfl, _, _, rfl, rfl, ?_⟩
      have ij : ixN (ds.map V.int).length (j : Int) = some j := by
        unfold ixN
        rw [if_pos (by omega), if_pos (by rw [List.length_map]; omega)]
        rfl
      refine ⟨_, rfl, _, rfl, L, _, _, j, rfl, rfl, hg4, ij, ?_⟩
      refine ⟨_, rfl, _, rfl, _, rfl, j, rfl, by omega, _, _, rfl, rfl, cm, _, _, rfl, rfl, ?_⟩
      refine ⟨ds.set j (d + sh), _, _, _, by rw [hs]; rfl, (hp6.up (by omega)).upd L_p L_c, fun b u nb hb => by rw [upd_ne (ne_of_none hb hLn)]; exact kG4 b u nb hb, ?_, hw2⟩
      rw [upd_same, List.map_set]
  · rintro σ G ⟨ds, v3, v4, v5, rfl, hpi, kG, hg, hw⟩
    exact ⟨_, rfl, q ds L G hw hLn kG (hpi.up (by omega)) hg⟩
end
end TF52
set_option maxHeartbeats 400000
/-! != of instances whose class tells == by its own def and takes != from object -/
namespace TG
open PySem PySem.Spec L2 PySem.Calls
open PyProof.Rows hiding St
/-- a class with its own ==, and object's != -/
structure NeC (K : PySem.W.Frag) (C f : Addr) : Prop where
  eq : PySem.W.findIn K (.ref C) "__eq__" = some (some (.ref f))
  ne : PySem.W.findIn K (.ref C) "__ne__" = some (some (.builtin "object.__ne__"))
  ob : PySem.W.subIn K (.ref C) (.type "object") = some true
  fn : PySem.W.isFn K (.ref f) = true
section
variable {X : Cx} {n : Nat} {CX : CXT} {C f : Addr} {fd : FuncData} {ps : List Str} {R : Addr → Addr → Hp → Prop} {E : XK}
theorem bind_ne (self : Value) : bindSpecial (.builtin "object.__ne__") self = pure (.builtin "object.__ne__", [self]) := PySem.F.slot_object_ne.bind self
theorem own_eq (F : FnOk X.prog X.w X.K X.mg X.base CX n f fd ps (spEq R)) (Z : NeC X.K C f) (hb : Binds X.K fd ps []) (hx : Passes CX X E) {A : Around} {pins : List (Addr × Obj)} {s : Shared} {σ : L2.St} {H : Hp} {a b : Addr} (sb : Sub X n A) (I : Inv X pins σ H s) (hr : R a b H) :
    wpAny (model X.prog X.w) A (call (.ref f) [.ref a, .ref b]) (fun v s' => v = .bool true ∧ ∃ H', Inv X pins σ H' s' ∧ Ext H H') X.xe s := by
  have hsp : spEq R [.ref a, .ref b] H (fun v H' => v = .bl true ∧ Ext H H') E := ⟨a, b, rfl, hr, fun H' e => ⟨rfl, e⟩⟩
  have e0 : Env0 X.prog X.w X.K X.mg X.base A X.stack s H := by
    have e := I.env0
    exact ⟨by rw [sb.fr]; exact e.frames, e.mod, e.bs, e.bsz, e.funs, e.frf, e.hok, e.bare⟩
  have hl := F.len _ _ _ _ hsp
  have r2 : Vals [V.ref a, V.ref b] [Value.ref a, Value.ref b] := .cons rfl (.cons rfl .nil)
  refine wpAny_call (codeAny_mono (F.run A X.stack s H ⟨[.ref a, .ref b], []⟩ [.ref a, .ref b] [.ref a, .ref b] _ E sb.room e0 (by
    have := hb s [.ref a, .ref b] I.kIn (by simpa using hl)
    simpa using this) r2 hsp) fun r s' hq => ?_)
  cases r with
  | error e => exact hx pins σ H s e s' I hq
  | ok fl =>
    cases fl with
    | ret w =>
      obtain ⟨z, H', I', rz, ez, ex⟩ := I.after hq
      subst ez
      cases rz
      exact ⟨rfl, H', I', ex⟩
    | next => exact False.elim hq
    | brk => exact False.elim hq
    | cont => exact False.elim hq
/-- x != y of what == tells alike -/
def rNeG (C : Addr) (R : Addr → Addr → Hp → Prop) : R2 := fun x y H Q => DIns C R x y H ∧ ∀ H', Ext H H' → Q (.bl false) H'
theorem op_neG (F : FnOk X.prog X.w X.K X.mg X.base CX n f fd ps (spEq R)) (Z : NeC X.K C f) (hb : Binds X.K fd ps []) (hx : Passes CX X E) (hr : Room (n + 1) X.A) : OpR X (compareOp .NotEq) (rNeG C R) := by
  intro pins s σ H x y v u Q I rx ry ⟨d, q⟩
  obtain ⟨a, b, dx, dy, fs, gs, rfl, rfl, ha, hb', hR⟩ := d
  cases rx
  cases ry
  obtain ⟨mA, J, _⟩ := ins_get I.hok ha
  obtain ⟨mB, J', _⟩ := ins_get I.hok hb'
  obtain ⟨od, J, _⟩ := J.look
  obtain ⟨od', J', _⟩ := J'.look
  obtain ⟨m, hF⟩ := I.fr
  have sb : L2.Sub X n X.A.in1 := ⟨hr.in1, rfl⟩
  have key := own_eq F Z hb hx (A := X.A.in1) sb I hR
  have XK := I.kIn
  have ent : wpAny (model X.prog X.w) X.A.in1 (Builtin.«object.__ne__» ⟨[.ref a, .ref b], []⟩) (fun fin s' => fin = .done (.ret (.bool false)) ∧ ∃ H', Inv X pins σ H' s' ∧ Ext H H') X.xe s := by
    unfold Builtin.«object.__ne__»
    repeat (first
      | with_reducible refine wpAny_cRoomFor sb.room.units0 ?_
      | (refine wpAny_bind (m := callSpecialIfBound? (.ref a) (Str.ofString "__eq__") [.ref b]) (PySem.W.ifBound_K XK J Z.eq Z.fn (wpAny_mono key (fun r s' hr => by
          obtain ⟨rfl, hq⟩ := hr
          repeat (first | exact ⟨rfl, hq⟩ | exact wpAny_pure ⟨rfl, hq⟩ | (refine wpAny_bind (m := truthy (.bool _)) (wpAny_truthy_bool ?_)) | wp_step)) fun _ _ e => e)))
      | wp_step)
  have chk : ∀ (Q' : Unit → Shared → Prop), Q' () s → wpAny (model X.prog X.w) X.A.in1 (checkBuiltinCall "object.__ne__" ⟨[.ref a, .ref b], []⟩) Q' X.xe s := fun Q' hq => by
    simp only [checkBuiltinCall, PySem.F.cmpKind_ne, PySem.F.cmpSplit_ne]
    refine wpAny_bind ?_
    unfold isInstance
    refine wpAny_bind (J.type.here ((PySem.W.looks_subIn XK Z.ob).here ?_))
    have ha := PySem.F.args_object_ne_2 (.ref a) (.ref b)
    rw [if_neg (by decide)]
    cases hsig : Manifest.signature? "object.__ne__" with
    | none => exact wpAny_pure hq
    | some sig =>
      simp only [argsOk, hsig] at ha
      have h2 : Bind.checkArgs "object.__ne__" sig ⟨[.ref a, .ref b], []⟩ = pure () := ha
      show wpAny _ _ (Bind.checkArgs "object.__ne__" sig ⟨[.ref a, .ref b], []⟩) _ _ _
      rw [h2]
      exact wpAny_pure hq
  have cl : wpAny (model X.prog X.w) X.A (call (.builtin "object.__ne__") [.ref a, .ref b]) (fun v s' => v = .bool false ∧ ∃ H', Inv X pins σ H' s' ∧ Ext H H') X.xe s := by
    refine wpAny_call (codeAny_call_builtin PySem.F.slot_object_ne.plain PySem.F.cmpEntry_ne (chk _ (wpAny_mono ent (fun v s' hv => ?_) fun _ _ e => e)))
    obtain ⟨rfl, hq⟩ := hv
    exact ⟨rfl, hq⟩
  have one : wpAny (model X.prog X.w) X.A (tryCompare (.ref a) "__ne__" (.ref b)) (fun r s' => r = some (.bool false) ∧ ∃ H', Inv X pins σ H' s' ∧ Ext H H') X.xe s := by
    simp only [tryCompare]
    have fin : wpAny (model X.prog X.w) X.A (call (.builtin "object.__ne__") ([.ref a] ++ [.ref b]) >>= fun v => pure (some v)) (fun r s' => r = some (.bool false) ∧ ∃ H', Inv X pins σ H' s' ∧ Ext H H') X.xe s := wpAny_bind (wpAny_mono cl (fun v s' h' => wpAny_pure ⟨by rw [h'.1], h'.2⟩) fun _ _ h' => h')
    have bnd : wpAny (model X.prog X.w) X.A (callSpecialIfBound? (.ref a) (Str.ofString "__ne__") [.ref b]) (fun r s' => r = some (.bool false) ∧ ∃ H', Inv X pins σ H' s' ∧ Ext H H') X.xe s := by
      simp only [callSpecialIfBound?, bindSpecialIfBound?]
      refine wpAny_holding (wpAny_bind (wpAny_bind (wpAny_bind (J.type.here ((PySem.W.looks_findIn XK Z.ne).here ?_)))))
      simp only [bind_ne]
      refine wpAny_bind (wpAny_askSetting (wpAny_ite ?_))
      split
      · exact wpAny_bind (wpAny_pure (wpAny_pure fin))
      · exact wpAny_tryCatch (wpAny_bind (wpAny_pure (wpAny_pure fin)))
    refine wpAny_bind (wpAny_mono bnd (fun r s' h' => ?_) fun _ _ e => e)
    obtain ⟨rfl, hq⟩ := h'
    exact wpAny_pure ⟨rfl, hq⟩
  show wpAny (model X.prog X.w) X.A (richCompare .NotEq (.ref a) (.ref b)) (EP X pins σ Q) X.xe s
  unfold richCompare
  simp only [oneThing_ref]
  refine wpAny_holding (wpAny_bind (wpAny_cRoomFor hr.units0 ?_))
  refine wpAny_bind (J.type.here (wpAny_bind (J'.type.here ?_)))
  rw [if_neg (by simp)]
  refine wpAny_bind (wpAny_pure ?_)
  simp only [Bool.false_eq_true, if_false]
  refine wpAny_bind (wpAny_mono one (fun r s' z => ?_) fun _ _ e => e)
  obtain ⟨rfl, H', I', e⟩ := z
  exact wpAny_pure ⟨.bl false, H', I', rfl, q H' e⟩
end
end TG
set_option maxHeartbeats 400000
/-! shares of one number told by two asks -/
namespace TG
open PySem PySem.Spec L2
open PyProof.Rows hiding St
/-- the terms of shares, place by place -/
def ownT (k : Nat) (ds : List Int) : List (List Int × Int) := (plcs k ds).map fun q => ([q.1], q.2)
theorem plcs_cons (k : Nat) (d : Int) (D : List Int) : plcs k (d :: D) = if 0 < d then ((k : Int), d) :: plcs (k + 1) D else plcs (k + 1) D := rfl
theorem wor2_cons (t : List Int × Int) (ts : List (List Int × Int)) : wor2 (t :: ts) = t.2 * 2 ^ t.1.sum.toNat + wor2 ts := rfl
theorem wor2_own : ∀ (ds : List Int) (k : Nat), (∀ d ∈ ds, 0 ≤ d) → wor2 (ownT k ds) = 2 ^ k * hornD 2 ds
  | [], k, _ => by show 0 = (2 : Int) ^ k * 0; rw [Int.mul_zero]
  | d :: D, k, h => by
    have ih := wor2_own D (k + 1) fun y hy => h y (List.mem_cons_of_mem _ hy)
    have hd := h d List.mem_cons_self
    have e : (2 : Int) ^ k * hornD 2 (d :: D) = d * 2 ^ k + 2 ^ (k + 1) * hornD 2 D := by
      show 2 ^ k * (d + 2 * hornD 2 D) = _
      rw [Int.mul_add, Int.mul_comm (2 ^ k) d, Int.pow_succ, Int.mul_assoc]
    unfold ownT at ih ⊢
    rw [plcs_cons, e]
    by_cases hp : 0 < d
    · rw [if_pos hp, List.map_cons, wor2_cons, ih]
      have s : [(k : Int)].sum.toNat = k := by
        rw [List.sum_cons, List.sum_nil, Int.add_zero, Int.toNat_natCast]
      show d * 2 ^ [(k : Int)].sum.toNat + _ = _
      rw [s]
    · rw [if_neg hp, ih, show d = 0 from by omega, Int.zero_mul, Int.zero_add]
theorem wor2_mem : ∀ {ts : List (List Int × Int)}, (∀ t ∈ ts, 0 ≤ t.2) → 0 ≤ wor2 ts ∧ ∀ t ∈ ts, t.2 * 2 ^ t.1.sum.toNat ≤ wor2 ts
  | [], _ => ⟨Int.le_refl _, fun t h => nomatch h⟩
  | x :: ts, h => by
    obtain ⟨i0, i1⟩ := wor2_mem (ts := ts) fun y hy => h y (List.mem_cons_of_mem _ hy)
    have hx : 0 ≤ x.2 * 2 ^ x.1.sum.toNat := Int.mul_nonneg (h x List.mem_cons_self) (Int.le_of_lt (pow2_nn _))
    rw [wor2_cons]
    refine ⟨by omega, fun t ht => ?_⟩
    rcases List.mem_cons.mp ht with rfl | ht
    · omega
    · have := i1 t ht
      omega
theorem bits_lt {v : Int} {p : Nat} (h : (2 : Int) ^ p ≤ v) : p < Builtin.Int.intBits v := by
  have hy : v.natAbs < 2 ^ Builtin.Int.intBits v := by
    unfold Builtin.Int.intBits
    by_cases e : v = 0
    · subst e
      decide
    · rw [if_neg (by simpa using e)]
      exact (Nat.log2_lt (by omega)).mp (Nat.lt_succ_self _)
  have h3 : ((2 ^ p : Nat) : Int) = (2 : Int) ^ p := by rw [Int.natCast_pow]; rfl
  have h4 : 2 ^ p < 2 ^ Builtin.Int.intBits v := by omega
  exact (Nat.pow_lt_pow_iff_right (by decide)).mp h4
/-- each place is below the worth's length in bits -/
theorem plc_bits {ds : List Int} (h : ∀ d ∈ ds, 0 ≤ d) {q : Int × Int} (hq : q ∈ plcs 0 ds) : 0 ≤ q.1 ∧ q.1 < (Builtin.Int.intBits (hornD 2 ds) : Nat) := by
  obtain ⟨b1, b2, b3, b4⟩ := plcs_bd hq
  have b1 : 0 ≤ q.1 := b1
  have hw := wor2_own ds 0 h
  rw [Int.pow_zero, Int.one_mul] at hw
  have nn : ∀ t ∈ ownT 0 ds, 0 ≤ t.2 := fun t ht => by
    obtain ⟨q, hq, rfl⟩ := List.mem_map.mp ht
    exact Int.le_of_lt (plcs_bd hq).2.2.1
  have m := (wor2_mem nn).2 _ (List.mem_map_of_mem hq)
  rw [hw] at m
  have s : [q.1].sum = q.1 := by rw [List.sum_cons, List.sum_nil, Int.add_zero]
  have m : q.2 * 2 ^ [q.1].sum.toNat ≤ hornD 2 ds := m
  rw [s] at m
  have g : 1 * (2 : Int) ^ q.1.toNat ≤ q.2 * 2 ^ q.1.toNat := Int.mul_le_mul_of_nonneg_right (by omega) (Int.le_of_lt (pow2_nn _))
  have := bits_lt (v := hornD 2 ds) (p := q.1.toNat) (by omega)
  exact ⟨b1, by omega⟩
theorem tms_own {st : Int} : ∀ {l : List (Int × Int)}, (∀ q ∈ l, 0 ≤ q.1 ∧ q.1 < st) → tmsP [1] st l = some (l.map fun q => ([q.1], q.2))
  | [], _ => rfl
  | q :: l, h => by
    have hq := h q List.mem_cons_self
    have e : pwP [1] q.1 st = ([q.1 % st], q.1 / st) := rfl
    rw [tmsP_cons, e, Int.emod_eq_of_lt hq.1 hq.2, Int.ediv_eq_zero_of_lt hq.1 hq.2, if_pos rfl, tms_own fun y hy => h y (List.mem_cons_of_mem _ hy)]
    rfl
theorem tld_own {ds : List Int} (h : ∀ d ∈ ds, 0 ≤ d) : tldP [1] (hornD 2 ds) ds = some (ownT 0 ds) := by
  unfold tldP
  rw [tms_own fun q hq => plc_bits h hq]
  show (if wor2 (ownT 0 ds) = hornD 2 ds then some (ownT 0 ds) else none) = _
  rw [if_pos (by rw [wor2_own ds 0 h, Int.pow_zero, Int.one_mul])]
theorem plcs_asc : ∀ (ds : List Int) (k : Nat), (plcs k ds).Pairwise (fun a b => a.1 < b.1)
  | [], _ => .nil
  | d :: D, k => by
    rw [plcs_cons]
    split
    · refine List.pairwise_cons.mpr ⟨fun q hq => ?_, plcs_asc D (k + 1)⟩
      have := (plcs_bd hq).1
      show (k : Int) < q.1
      omega
    · exact plcs_asc D (k + 1)
theorem lex_one1 (x y : Int) : HT.lexLt [x] [y] = decide (x < y) := by
  rw [HT.lexLt_cons]
  split
  · rename_i e
    rw [decide_eq_false (by omega)]
    rfl
  · rfl
theorem own_asc (ds : List Int) : (ownT 0 ds).Pairwise (fun a b => HT.lexLt a.1 b.1 = true) :=
  List.pairwise_map.mpr ((plcs_asc ds 0).imp fun {a b} h => by rw [lex_one1]; exact decide_eq_true h)
theorem own_uniq {ds : List Int} {ts : List (List Int × Int)} (hp : ts.Perm (ownT 0 ds)) (hs : ts.Pairwise (fun s t => HT.lexLt t.1 s.1 = false)) : ts = ownT 0 ds := by
  have h2 : (ownT 0 ds).Pairwise (fun s t => HT.lexLt t.1 s.1 = false) := List.pairwise_map.mpr ((plcs_asc ds 0).imp fun {a b} h => by rw [lex_one1]; exact decide_eq_false (by omega))
  have inj : ∀ a b, a ∈ plcs 0 ds → b ∈ plcs 0 ds → a.1 = b.1 → a = b := fun a b ha hb e => by
    obtain ⟨i, hi⟩ := List.mem_iff_getElem?.mp ha
    obtain ⟨j, hj⟩ := List.mem_iff_getElem?.mp hb
    have pw := List.pairwise_iff_getElem.mp (plcs_asc ds 0)
    obtain ⟨hi1, hi2⟩ := List.getElem?_eq_some_iff.mp hi
    obtain ⟨hj1, hj2⟩ := List.getElem?_eq_some_iff.mp hj
    rcases Nat.lt_trichotomy i j with h | h | h
    · have := pw i j hi1 hj1 h
      rw [hi2, hj2] at this
      omega
    · subst h
      rw [hi] at hj
      exact Option.some.inj hj
    · have := pw j i hj1 hi1 h
      rw [hi2, hj2] at this
      omega
  refine List.Perm.eq_of_pairwise (le := fun s t => HT.lexLt t.1 s.1 = false) (fun a b ha hb h1 h3 => ?_) hs h2 hp
  obtain ⟨x, hx, rfl⟩ := List.mem_map.mp (hp.mem_iff.mp ha)
  obtain ⟨y, hy, rfl⟩ := List.mem_map.mp hb
  rw [lex_one1] at h1 h3
  have := of_decide_eq_false h1
  have := of_decide_eq_false h3
  rw [inj x y hx hy (by omega)]
end TG
set_option maxHeartbeats 400000
/-! the asks of one number -/
namespace TG
open PySem PySem.Spec L2
open PyProof.Rows hiding St
theorem next0 (n : Int) : nextIn [[0], [1]] [[n], []] = some (1, [2]) := by
  unfold nextIn
  rw [show askOf [0] [n] = none from by
    show (if (1 : Int) ∈ [0] ∧ ¬ n < 2 then some (second [0] (n + 1) (Builtin.Int.intBits n)) else none) = none
    rw [if_neg (fun h => absurd h.1 (by decide))]]
  rfl
theorem next1 (n v : Int) : nextIn [[0], [1]] [[n], [v]] = if v < 2 then none else some (1, [v + 1]) := by
  unfold nextIn
  rw [show askOf [0] [n] = none from by
    show (if (1 : Int) ∈ [0] ∧ ¬ n < 2 then some (second [0] (n + 1) (Builtin.Int.intBits n)) else none) = none
    rw [if_neg (fun h => absurd h.1 (by decide))]]
  unfold nextIn
  have e : askOf [1] [v] = if v < 2 then none else some [v + 1] := by
    show (if (1 : Int) ∈ [1] ∧ ¬ v < 2 then some (second [1] (v + 1) (Builtin.Int.intBits v)) else none) = _
    by_cases h : v < 2
    · rw [if_pos h, if_neg (fun z => z.2 h)]
    · rw [if_neg h, if_pos ⟨by decide, h⟩]
      show some [(v + 1) * 1] = _
      rw [Int.mul_one]
  rw [e]
  by_cases h : v < 2
  · rw [if_pos h, if_pos h]
    rfl
  · rw [if_neg h, if_neg h]
    rfl
theorem next2 (n v w : Int) : nextIn [[0], [1]] [[n], [v, w]] = none := by
  unfold nextIn
  rw [show askOf [0] [n] = none from by
    show (if (1 : Int) ∈ [0] ∧ ¬ n < 2 then some (second [0] (n + 1) (Builtin.Int.intBits n)) else none) = none
    rw [if_neg (fun h => absurd h.1 (by decide))]]
  rfl
theorem ok1 {v : Int} (h : v ≤ 1000000000000000000) : okF [1] [] v = true := decide_eq_true h
theorem horn_ge2 : ∀ {ds : List Int}, (∀ d ∈ ds, 0 ≤ d) → 0 ≤ hornD 2 ds ∧ ∀ d ∈ ds, d ≤ hornD 2 ds
  | [], _ => ⟨Int.le_refl _, fun d h => nomatch h⟩
  | x :: ds, h => by
    obtain ⟨i0, i1⟩ := horn_ge2 (ds := ds) fun y hy => h y (List.mem_cons_of_mem _ hy)
    have hx := h x List.mem_cons_self
    refine ⟨by show 0 ≤ x + 2 * hornD 2 ds; omega, fun d hd => ?_⟩
    show d ≤ x + 2 * hornD 2 ds
    rcases List.mem_cons.mp hd with rfl | hd
    · omega
    · have := i1 d hd
      omega
theorem run1 (n : Int) {v : Int} (h : v ≤ 1000000000000000000) (r : List (List Int × Int)) : run (chs 1) ((chs 1).map fun _ => []) (([0], n) :: ([2], v) :: r) = run [[0], [1]] [[n], [v]] r := by
  show (if ([0] : List Int) = [0] ∧ okF [0] [] n = true then run [[0], [1]] [[n], []] (([2], v) :: r) else none) = _
  rw [if_pos ⟨rfl, rfl⟩]
  unfold run
  rw [next0]
  show (if ([2] : List Int) = [2] ∧ okF [1] [] v = true then run [[0], [1]] [[n], [v]] r else none) = _
  rw [if_pos ⟨rfl, ok1 h⟩]
  cases r <;> rfl
theorem run2 (n : Int) {v : Int} (h2 : 2 ≤ v) (w : Int) : run [[0], [1]] [[n], [v]] [([v + 1], w)] = some [[n], [v, w]] := by
  unfold run
  rw [next1, if_neg (by omega)]
  show (if ([v + 1] : List Int) = [v + 1] ∧ okF [1] [v] w = true then run [[0], [1]] [[n], [v, w]] [] else none) = _
  rw [if_pos ⟨rfl, rfl⟩]
  rfl
/-- the row of the choice (0,) -/
def row0 (n : Int) : List (List Int × Int) := if 0 < n then [([0], n)] else []
theorem own_small {ds : List Int} (h : ∀ d ∈ ds, 0 ≤ d) (hv : hornD 2 ds < 2) : ownT 0 ds = row0 (hornD 2 ds) := by
  cases ds with
  | nil => rfl
  | cons d D =>
    have hd := h d List.mem_cons_self
    have hD : DigOk 3 D ∨ True := .inr trivial
    have h1 := horn_ge2 (ds := D) fun y hy => h y (List.mem_cons_of_mem _ hy)
    have e : hornD 2 (d :: D) = d + 2 * hornD 2 D := rfl
    have z : hornD 2 D = 0 := by omega
    have zs : ∀ y ∈ D, y = 0 := fun y hy => by
      have := h1.2 y hy
      have := h y (List.mem_cons_of_mem _ hy)
      omega
    have pe : ∀ (l : List Int) (k : Nat), (∀ y ∈ l, y = 0) → plcs k l = [] := fun l => by
      induction l with
      | nil => intro k _; rfl
      | cons y l ih =>
        intro k hz
        rw [plcs_cons, if_neg (by rw [hz y List.mem_cons_self]; decide), ih _ fun x hx => hz x (List.mem_cons_of_mem _ hx)]
    unfold ownT row0
    rw [plcs_cons, pe D 1 zs, e, z]
    by_cases hp : 0 < d
    · rw [if_pos hp, if_pos (by omega)]
      show [([((0 : Nat) : Int)], d)] = [([0], d + 2 * 0)]
      rw [show d + 2 * 0 = d from by omega]
      rfl
    · rw [if_neg hp, if_neg (by omega)]
      rfl
theorem good_row0 {n : Int} (h : 0 ≤ n) : GoodP [0] (row0 n) := by
  unfold row0 GoodP
  by_cases hp : 0 < n
  · rw [if_pos hp]
    refine ⟨by show 1 ≤ 500; decide, fun t ht => ?_, rfl⟩
    rw [List.mem_singleton.mp ht]
    refine ⟨rfl, fun p hp => ?_, fun q hq => ?_, by show 1 ≤ n; omega⟩
    · rw [List.mem_singleton.mp hp]; decide
    · rw [List.mem_singleton.mp hq]; exact .inr rfl
  · rw [if_neg hp]
    exact ⟨Nat.zero_le _, fun t ht => absurd ht List.not_mem_nil, rfl⟩
theorem good_own {ds : List Int} (h6 : ds.length ≤ 60) : GoodP [1] (ownT 0 ds) := by
  unfold GoodP
  have l1 := plcs_len ds 0
  refine ⟨by unfold ownT; rw [List.length_map]; omega, fun t ht => ?_, asc_pairwise (List.pairwise_map.mpr (own_asc ds))⟩
  obtain ⟨q, hq, rfl⟩ := List.mem_map.mp ht
  obtain ⟨b1, b2, b3, b4⟩ := plcs_bd hq
  have b1 : 0 ≤ q.1 := b1
  have b2 : q.1 < (0 : Nat) + ds.length := b2
  refine ⟨rfl, fun p hp => ?_, fun x hx => ?_, by show 1 ≤ q.2; omega⟩
  · rw [List.mem_singleton.mp hp]
    omega
  · rw [List.mem_singleton.mp hx]
    exact .inl rfl
/-- what the terms are worth at a number -/
theorem wv_own (x : Int) : ∀ (ds : List Int) (k : Nat), (∀ d ∈ ds, 0 ≤ d) → wvT [x] (ownT k ds) = x ^ k * hornD x ds
  | [], k, _ => by show 0 = x ^ k * 0; rw [Int.mul_zero]
  | d :: D, k, h => by
    have ih := wv_own x D (k + 1) fun y hy => h y (List.mem_cons_of_mem _ hy)
    have hd := h d List.mem_cons_self
    have e : x ^ k * hornD x (d :: D) = d * x ^ k + x ^ (k + 1) * hornD x D := by
      show x ^ k * (d + x * hornD x D) = _
      rw [Int.mul_add, Int.mul_comm (x ^ k) d, Int.pow_succ, Int.mul_assoc]
    unfold ownT at ih ⊢
    rw [plcs_cons, e]
    by_cases hp : 0 < d
    · rw [if_pos hp, List.map_cons]
      show d * (x ^ (k : Int).toNat * 1) + wvT [x] ((plcs (k + 1) D).map fun q => ([q.1], q.2)) = _
      rw [ih, Int.mul_one, Int.toNat_natCast]
    · rw [if_neg hp, ih, show d = 0 from by omega, Int.zero_mul, Int.zero_add]
theorem wv_row0 (n : Int) (h : 0 ≤ n) (xs : List Int) (hx : xs = [0]) : wvT xs (row0 n) = n := by
  subst hx
  unfold row0
  by_cases hp : 0 < n
  · rw [if_pos hp]
    show n * (0 ^ (0 : Int).toNat * 1) + 0 = n
    rw [show (0 : Int) ^ (0 : Int).toNat = 1 from rfl]
    omega
  · rw [if_neg hp]
    show 0 = n
    omega
end TG
set_option maxHeartbeats 400000
/-! isinstance of an instance and its own class -/
namespace TG
open PySem PySem.Spec L2
open PyProof.Rows hiding St
structure IsiC (K : PySem.W.Frag) (C : Addr) : Prop where
  cls : PySem.W.findIn K (.ref C) "__class__" = some (some (.builtin "object.__class__"))
  get : PySem.W.specialIn K (.builtin "object.__class__") "__get__" = some (some (.builtin "getset_descriptor.__get__"))
  tak : PySem.W.takesIn K (.builtin "object.__class__") = some true
  mro : PySem.W.mroIn K C (.type "object") = some true
  kit : PySem.W.kitOne K (.ref C) (.ref C) = some true
theorem IsiC.ty {K : PySem.W.Frag} {C a dx : Addr} {H : Hp} {fs : List (Str × V)} (Z : IsiC K C) (cl : Cls K C) (h : H a = some (.ins C dx fs)) : TyX K H (.ref a) (.ref C) := .base (.ins h cl Z.cls Z.get Z.tak Z.mro)
end TG
set_option maxHeartbeats 400000
namespace TF52
open PySem PySem.Spec L2 TG TA
open PyProof.Rows hiding St
section
variable {X : Cx} {k j : Nat} {f : Addr} {fd : FuncData} {ps ks : List Str} {sp : Sp} {x : Str} {st : Stmt} {p pos : Pos} {kws : List Keyword} {tk : TA} {g : List Value → List Value → List Value} {gV : List V → List V → List V}
/-- f(k = v, ..) -/
theorem pe_cdk0 (D : Df X.K X.mg x st f fd ps) (F : FnOk X.prog X.w X.K X.mg X.base CX0 k f fd ps sp) (B : KBn X.K fd ps 0 ks g gV) (hr : Room j X.A) (hj : k ≤ j) (hkw : PK X kws tk) (hg : Gl X x := by rfl)
    (hall : (backToKw pos (keywordEach kws X.env)).all (·.1.isSome) = true := by rfl) (hks : (backToKw pos (keywordEach kws X.env)).filterMap (·.1) = ks := by rfl)
    (hdb : (x == ("__debug__" : Str)) = false := by decide) (hpl : ((backTo pos (starEach [] X.env)).any (·.1) || (backToKw pos (keywordEach kws X.env)).any (·.1.isNone)) = false := by rfl) :
    PE X (.Call (.Name x p) [] kws pos) (tCallN 0 ks.length sp gV E0 tNil tk) := by
  refine ⟨fun pins s σ H Q I h => wpAny_Call_Name_kw (ld_glob I hg D.m ?_ hdb)⟩
  refine PySem.W.callWith_KW0 (h₀ := X.base) I.ok.mod.kin D.F.kp hall (thn (hkw.run pos pins s σ H _ I h) fun ws s2 ⟨zs, H2, I2, rz, l1, l2, q2⟩ => ⟨I2.kIn, ?_⟩) hpl
  rw [hks]
  exact run_fnN (us := []) (vs := []) F (hr.mono hj) B pass0 I2 .nil rz rfl l2 q2
end
/-! ### told right -/
abbrev sTR : Stmt := top 86
theorem scTR : FnScope ["tub", "shares", "none", "value", "answers", "second", "digits", "told", "terms", "power", "share", "due", "term", "numbers", "answer", "far"] ["tub", "shares", "none"] (defScope sTR) := ⟨rfl, rfl, rfl, by decide +kernel, rfl, by decide +kernel, by decide +kernel⟩
def spTR : Sp := fun vs H Q _ => ∃ (p c l : Addr) (n : Nat) (ds : List Int) (no : Int), vs = [.ref p, .ref l, .int no] ∧ PenAt n H p c ∧ n ≤ 10000 ∧ l ≠ p ∧ H l = some (.lst (ds.map V.int)) ∧ ShW ds ∧ 0 ≤ no ∧ no ≤ 2 ^ 134 ∧ ∀ H', Keep p H H' → PenAt (n + 2) H' p c → Q (.bl true) H'
theorem cut_to (ds : List Int) {k : Nat} (hk : k ≤ ds.length) : cutV (ds.map V.int) none (some (k : Int)) = (ds.take k).map V.int := by
  unfold cutV
  rw [HT.sIx_none, List.drop_zero, HT.sIx_nat, List.length_map, Nat.sub_zero, ← List.map_take, Nat.min_eq_left hk]
theorem cut_from (ds : List Int) {k : Nat} (hk : k ≤ ds.length) : cutV (ds.map V.int) (some (k : Int)) none = (ds.drop k).map V.int := by
  unfold cutV
  rw [HT.sIx_none, HT.sIx_nat, List.length_map, Nat.min_eq_left hk, ← List.map_drop, List.take_of_length_le (by rw [List.length_map, List.length_drop]; omega)]
theorem sum_z : ∀ {l : List Int}, (∀ d ∈ l, d = 0) → l.sum = 0
  | [], _ => rfl
  | x :: l, h => by rw [List.sum_cons, h x List.mem_cons_self, sum_z fun y hy => h y (List.mem_cons_of_mem _ hy)]; rfl
theorem plcs_snoc (d : Int) : ∀ (D : List Int) (k : Nat), plcs k (D ++ [d]) = plcs k D ++ if 0 < d then [((((k + D.length : Nat)) : Int), d)] else []
  | [], k => by
    show plcs k [d] = _
    rw [plcs_cons]
    split <;> rfl
  | x :: D, k => by
    rw [List.cons_append, plcs_cons, plcs_cons, plcs_snoc d D (k + 1), List.length_cons, show k + 1 + D.length = k + (D.length + 1) from by omega]
    by_cases h : 0 < x
    · rw [if_pos h, if_pos h, List.cons_append]
    · rw [if_neg h, if_neg h]
theorem own_snoc (D : List Int) (d : Int) : ownT 0 (D ++ [d]) = ownT 0 D ++ if 0 < d then [([((D.length : Nat) : Int)], d)] else [] := by
  unfold ownT
  rw [plcs_snoc, List.map_append, Nat.zero_add]
  split <;> rfl
theorem TermsT.same2 {H H' : Hp} {v : V} {ts : List (List Int × Int)} (h : TermsT H v ts) (s : Same H H') : TermsT H' v ts := by
  obtain ⟨a, es, e, h1, h2⟩ := h
  exact ⟨a, es, e, s _ _ h1, paired_imp (fun _ _ h => h.same s) h2⟩
/-- the answers and what they tell -/
def ToldF (no : Int) (ds : List Int) (as : List (List Int × Int)) (ts : List (List Int)) : Prop :=
  (as = [([0], no), ([2], hornD 2 ds)] ∧ ts = [[no], [hornD 2 ds]] ∧ hornD 2 ds < 2) ∨
  (as = [([0], no), ([2], hornD 2 ds), ([hornD 2 ds + 1], hornD (hornD 2 ds + 1) ds)] ∧ ts = [[no], [hornD 2 ds, hornD (hornD 2 ds + 1) ds]] ∧ 2 ≤ hornD 2 ds)
theorem told_facts {no : Int} {ds : List Int} {as : List (List Int × Int)} {ts : List (List Int)} (h : ToldF no ds as ts) (hw : ShW ds) (n0 : 0 ≤ no) : AnsOk 1 as ∧ as.length ≤ 100 ∧ run (chs 1) ((chs 1).map fun _ => []) as = some ts ∧ nextIn (chs 1) ts = none ∧
    (∀ (i : Nat) (c t : List Int) (r : List (List Int × Int)), (chs 1)[i]? = some c → ts[i]? = some t → [row0 no, ownT 0 ds][i]? = some r → Tells c t r) ∧ Paired (fun ts c => GoodP c ts) [row0 no, ownT 0 ds] (chs 1) := by
  obtain ⟨dl, d0, dw⟩ := id hw
  have hv := horn_ge d0
  have g : Paired (fun ts c => GoodP c ts) [row0 no, ownT 0 ds] (chs 1) := .cons (good_row0 n0) (.cons (good_own (by omega)) .nil)
  have t0 : Tells [0] [no] (row0 no) := .inl ⟨no, rfl, rfl⟩
  rcases h with ⟨rfl, rfl, h2⟩ | ⟨rfl, rfl, h2⟩
  · refine ⟨fun e he => ?_, by show 2 ≤ 100; decide, run1 no dw [], ?_, fun i c t r hc ht hr => ?_, g⟩
    · simp only [List.mem_cons, List.not_mem_nil, or_false] at he
      rcases he with rfl | rfl
      · exact ⟨rfl, fun n hn => by rw [List.mem_singleton.mp hn]; decide, n0⟩
      · exact ⟨rfl, fun n hn => by rw [List.mem_singleton.mp hn]; decide, hv.1⟩
    · show nextIn [[0], [1]] _ = none
      rw [next1, if_pos h2]
    · match i with
      | 0 => cases hc; cases ht; cases hr; exact t0
      | 1 =>
        cases hc; cases ht; cases hr
        exact .inl ⟨_, rfl, own_small d0 h2⟩
      | i + 2 => cases hc
  · refine ⟨fun e he => ?_, by show 3 ≤ 100; decide, (run1 no dw _).trans (run2 no h2 _), next2 _ _ _, fun i c t r hc ht hr => ?_, g⟩
    · simp only [List.mem_cons, List.not_mem_nil, or_false] at he
      rcases he with rfl | rfl | rfl
      · exact ⟨rfl, fun n hn => by rw [List.mem_singleton.mp hn]; decide, n0⟩
      · exact ⟨rfl, fun n hn => by rw [List.mem_singleton.mp hn]; decide, hv.1⟩
      · exact ⟨rfl, fun n hn => by rw [List.mem_singleton.mp hn]; omega, hornD_nn (by omega) fun d hd => ⟨d0 d hd, by have := hv.2 d hd; omega⟩⟩
    · match i with
      | 0 => cases hc; cases ht; cases hr; exact t0
      | 1 =>
        cases hc; cases ht; cases hr
        have n60 : (2 : Int) ^ 60 = 1152921504606846976 := by decide
        obtain ⟨b0, b1⟩ := horn_bd (x := hornD 2 ds + 1) (by omega) (by rw [n60]; omega) (ds := ds) fun d hd => ⟨d0 d hd, by have := hv.2 d hd; omega⟩
        exact .inr ⟨_, _, ds, _, rfl, by decide, h2, fun d hd => ⟨d0 d hd, by have := hv.2 d hd; omega⟩, rfl, by omega, Nat.le_trans (bits_le (nat_of_lt b0 b1)) (by rw [dl]; decide), tld_own d0, fun ts hp hs => own_uniq hp hs⟩
      | i + 2 => cases hc
theorem TabAt.keepL {p C T : Addr} {H H' : Hp} {m : Nat} {rows : List (List (List Int × Int))} {xs : List V} (h : TabAt H C T m rows) (hp : H p = some (.lst xs)) (k : Keep p H H') : TabAt H' C T m rows := by
  obtain ⟨dx, r, rs, h1, h2, h3⟩ := h
  have nt : ∀ ys, H p ≠ some (.tup ys) := fun ys e => by rw [hp] at e; cases e
  refine ⟨dx, r, rs, k _ _ (fun z => ?_) h1, k _ _ (fun z => nt _ (by rw [← z]; exact h2)) h2, paired_imp (fun _ _ h => h.keep nt fun b o hb _ e => k b o hb e) h3⟩
  rw [z, hp] at h1
  cases h1
theorem AnsAt.keepP {p c : Addr} {n : Nat} {H H' : Hp} {v : V} {e : List Int × Int} (h : AnsAt H v e) (hp : PenAt n H p c) (k : Keep p H H') : AnsAt H' v e := by
  obtain ⟨cells, i, g, hp, _⟩ := hp
  obtain ⟨a, u, rfl, h1, b, rfl, h2⟩ := h
  refine ⟨a, _, rfl, ?_, b, rfl, ?_⟩
  · rcases h1 with h | h
    · refine .inl (k _ _ (fun z => ?_) h)
      rw [z, hp] at h
      exact absurd (congrArg (fun o => match o with | some (HO.lst xs) => xs.length | _ => 0) h) (by show ¬ (3 = 2); decide)
    · refine .inr (k _ _ (fun z => ?_) h)
      rw [z, hp] at h
      cases h
  · rcases h2 with h | h
    · refine .inl (k _ _ (fun z => ?_) h)
      rw [z, hp] at h
      cases e with
      | mk e1 e2 => cases e1 with
        | nil => cases h
        | cons => cases h
    · refine .inr (k _ _ (fun z => ?_) h)
      rw [z, hp] at h
      cases h
theorem rows_own_B {ds : List Int} {no : Int} (hw : ShW ds) (n1 : no ≤ 2 ^ 134) : RowsB 60 134 [row0 no, ownT 0 ds] := by
  obtain ⟨dl, d0, dw⟩ := hw
  have hv := horn_ge d0
  intro ts hts t ht
  rcases List.mem_cons.mp hts with rfl | hts
  · unfold row0 at ht
    split at ht
    · rw [List.mem_singleton.mp ht]
      exact ⟨fun p hp => by rw [List.mem_singleton.mp hp]; decide, n1⟩
    · cases ht
  · rw [List.mem_singleton.mp hts] at ht
    obtain ⟨q, hq, rfl⟩ := List.mem_map.mp ht
    obtain ⟨b1, b2, b3, b4⟩ := plcs_bd hq
    have b2 : q.1 < (0 : Nat) + ds.length := b2
    refine ⟨fun p hp => by rw [List.mem_singleton.mp hp]; omega, ?_⟩
    have h1 := hv.2 _ b4
    have n134 : (1000000000000000000 : Int) ≤ 2 ^ 134 := by decide
    show q.2 ≤ _
    omega
theorem at_own {x : Int} {ds : List Int} {no : Int} {r : List (List Int × Int)} (hx : 0 < x) (h0 : ∀ d ∈ ds, 0 ≤ d) (h : [row0 no, ownT 0 ds][(bitsN 0 ([x].map oneN)).toNat]? = some r) : wvT [x] r = hornD x ds := by
  have e : ([x].map oneN) = [1] := by
    show [oneN x] = [1]
    unfold oneN
    rw [if_neg (by omega)]
  rw [e] at h
  cases h
  rw [wv_own x ds 0 h0]
  rw [Int.pow_zero, Int.one_mul]
theorem at_told {no : Int} {ds : List Int} {as : List (List Int × Int)} {ts : List (List Int)} (h : ToldF no ds as ts) (hw : ShW ds) (n0 : 0 ≤ no) : ∀ e ∈ as, ∃ x, e.1 = [x] ∧ 0 ≤ x ∧ x ≤ 2 ^ 60 ∧ ∀ r, [row0 no, ownT 0 ds][(bitsN 0 (e.1.map oneN)).toNat]? = some r → wvT e.1 r = e.2 := by
  obtain ⟨dl, d0, dw⟩ := id hw
  have hv := horn_ge d0
  have n60 : (2 : Int) ^ 60 = 1152921504606846976 := by decide
  have z : ∃ x : Int, ([0] : List Int) = [x] ∧ 0 ≤ x ∧ x ≤ 2 ^ 60 ∧ ∀ r, [row0 no, ownT 0 ds][(bitsN 0 (([0] : List Int).map oneN)).toNat]? = some r → wvT [0] r = no := ⟨0, rfl, by decide, by decide, fun r hr => by
    cases hr
    exact wv_row0 no n0 _ rfl⟩
  have two : ∃ x : Int, ([2] : List Int) = [x] ∧ 0 ≤ x ∧ x ≤ 2 ^ 60 ∧ ∀ r, [row0 no, ownT 0 ds][(bitsN 0 (([2] : List Int).map oneN)).toNat]? = some r → wvT [2] r = hornD 2 ds := ⟨2, rfl, by decide, by decide, fun r hr => at_own (by decide) d0 hr⟩
  intro e he
  rcases h with ⟨rfl, _, h2⟩ | ⟨rfl, _, h2⟩ <;> simp only [List.mem_cons, List.not_mem_nil, or_false] at he
  · rcases he with rfl | rfl
    · exact z
    · exact two
  · rcases he with rfl | rfl | rfl
    · exact z
    · exact two
    · exact ⟨_, rfl, by omega, by rw [n60]; omega, fun r hr => at_own (by omega) d0 hr⟩
theorem TabAt.sameS {C T : Addr} {H H' : Hp} {m : Nat} {rows : List (List (List Int × Int))} (h : TabAt H C T m rows) (s : Same H H') : TabAt H' C T m rows := by
  obtain ⟨dx, r, rs, h1, h2, h3⟩ := h
  exact ⟨dx, r, rs, s _ _ h1, s _ _ h2, paired_imp (fun _ _ h => TermsT.same2 h s) h3⟩
theorem at_call {C Ta : Addr} {G : Hp} {rows : List (List (List Int × Int))} {u : V} {x y : Int} {Q : VK} {E : XK} (tab : TabAt G C Ta 1 rows) (hg : Paired (fun ts c => GoodP c ts) rows (chs 1)) (rB : RowsB 60 134 rows) (hu : SeqI G u [x]) (x0 : 0 ≤ x) (x1 : x ≤ 2 ^ 60)
    (hy : ∀ r, rows[(bitsN 0 ([x].map oneN)).toNat]? = some r → wvT [x] r = y) (q : ∀ G', Same G G' → Q (.int y) G') : spTbA C [.ref Ta, u] G Q E :=
  ⟨Ta, u, 1, rows, [x], 60, 60, 134, rfl, tab, by decide, hu, rfl, hg, rB, by decide, by decide, ⟨by decide, by decide⟩, fun z hz => by rw [List.mem_singleton.mp hz]; exact ⟨x0, x1⟩, fun ts H' s' hts => by rw [hy ts hts]; exact q H' s'⟩
theorem paired_two {α β : Type} {R : α → β → Prop} {rs : List α} {a b : β} (h : Paired R rs [a, b]) : ∃ x y, rs = [x, y] ∧ R x a ∧ R y b := by
  cases h with
  | cons h1 t => cases t with
    | cons h2 t2 =>
      cases t2
      exact ⟨_, _, rfl, h1, h2⟩
section
variable {P : Program} {w : World} {K : PySem.W.Frag} {mg : Str → Option Value} {base : Heap} {f f1 f2 f3 f4 f5 f6 fA fI fE : Addr} {fd d1 d2 d3 d4 d5 d6 dA dI dE : FuncData}
theorem ok_tr {C : Addr} (kT : IsiC K C) (F : Fun K "_law_told_right" "_law_told_right" sTR f fd) (T : Bn mg) (Z : TabC K mg C fI fA) (G_at : FnOk P w K mg base CX0 7 fA dA ["self", "numbers"] (spTbA C)) (b_at : Binds K dA ["self", "numbers"] [])
    (G_Table : FnOk P w K mg base CX0 7 fI dI ["self", "many", "rows"] (spTbI C)) (bI : Binds K dI ["self", "many", "rows"] []) (Ze : NeC K C fE) (G_eq : FnOk P w K mg base CX0 2 fE dE ["self", "other"] (spEq (TabTwo C))) (bE : Binds K dE ["self", "other"] [])
    (D__law_worth : Df K mg "_law_worth" sWo f1 d1 ["shares", "number"]) (G__law_worth : FnOk P w K mg base CX0 1 f1 d1 ["shares", "number"] spWo) (D__law_digits : Df K mg "_law_digits" sDi f2 d2 ["number", "base"]) (G__law_digits : FnOk P w K mg base CX0 1 f2 d2 ["number", "base"] spDi)
    (D_next_ask : Df K mg "next_ask" sNA f3 d3 ["many", "answers"]) (G_next_ask : FnOk P w K mg base CX0 7 f3 d3 ["many", "answers"] (spNextAsk K)) (D_told_by : Df K mg "told_by" sTB f4 d4 ["many", "answers"]) (G_told_by : FnOk P w K mg base CX0 9 f4 d4 ["many", "answers"] (spTB K C)) (B_told_by : KBn K d4 ["many", "answers"] 0 ["answers", "many"] (fun us ws => us ++ ws.reverse) (fun vs zs => vs ++ zs.reverse))
    (D__law_dip : Df K mg "_law_dip" sDraw f5 d5 ["tub", "many"]) (G__law_dip : FnOk P w K mg base CX0 1 f5 d5 ["tub", "many"] spDraw) (D__law_pick : Df K mg "_law_pick" sPick f6 d6 ["tub", "some"]) (G__law_pick : FnOk P w K mg base CX0 2 f6 d6 ["tub", "some"] (spPick K)) : FnOk P w K mg base CX0 12 f fd ["tub", "shares", "none"] spTR := by
  refine F.ok scTR (fun vs H Q E h => ?_) (fun cdv A outer s H vs Q E hr h => ?_)
  · obtain ⟨p, c, l, n, ds, no, rfl, _⟩ := h
    rfl
  obtain ⟨p, c, l, n, ds, no, rfl, hp, hn, l_p, hl, hw, n0, n1, q⟩ := h
  obtain ⟨dl, d0, dw⟩ := id hw
  refine ⟨_, (pss_cons (ps_set (i := 3) scTR.nd rfl (.inl rfl) (pe_cd D__law_worth G__law_worth hr (by decide) (pa_cons (pv 1) (pa_cons pe_int pa_nil))))
      (pss_cons (ps_set (i := 4) scTR.nd rfl (.inl rfl) (pe_lst (pa_cons (pe_tup (pa_cons (pe_tup (pa_cons pe_int pa_nil)) (pa_cons (pv 2) pa_nil))) (pa_cons (pe_lst (pa_cons (pe_lst (pa_cons pe_int pa_nil)) (pa_cons (pv 3) pa_nil))) pa_nil))))
      (C8.pss_cut (ps_if (pt_cmpR op_gt (pv 3) pe_int (nomark _)) (pss_cons (ps_set (i := 5) scTR.nd rfl (.inl rfl) (pe_cd D__law_worth G__law_worth hr (by decide) (pa_cons (pv 1) (pa_cons (pe_op op_add (pv 3) pe_int) pa_nil))))
        (pss_cons (ps_set (i := 6) scTR.nd rfl (.inl rfl) (pe_cd D__law_digits G__law_digits hr (by decide) (pa_cons (pv 5) (pa_cons (pe_op op_add (pv 3) pe_int) pa_nil))))
        (pss_cons (ps_if (PW.pt (pw_or (pt_cmpR (op_neD hr.units) (pe_cd D_next_ask G_next_ask hr (by decide) (pa_cons pe_int (pa_cons (pv 4) pa_nil))) (pe_tup (pa_cons (pe_op op_add (pv 3) pe_int) pa_nil)) (nomark _)) (pw_or (pt_cmpR (op_neD hr.units) (pv 6) (pe_slice sl_list (pv 1) po_none (po_some (pe_callB call_len_seq (by rfl) T.b_len (by decide +kernel) (pa_cons (pv 6) pa_nil)))) (nomark _)) (pw_or1 (pt_cmpR op_ne (pe_callB (cr_sum rfl) (by rfl) T.b_sum (by decide +kernel) (pa_cons (pe_slice sl_list (pv 1) (po_some (pe_callB call_len_seq (by rfl) T.b_len (by decide +kernel) (pa_cons (pv 6) pa_nil))) po_none) pa_nil)) pe_int (nomark _)))))) (pss_one (ps_ret pe_bl)) pss_nil)
        (pss_one (ps_expr (pe_bm PySem.F.plainAttrs_list PySem.F.slot_list_append PySem.F.type_list_append mt_append (pv 4) (pa_cons (pe_tup (pa_cons (pe_tup (pa_cons (pe_op op_add (pv 3) pe_int) pa_nil)) (pa_cons (pv 5) pa_nil))) pa_nil))))))) pss_nil)
      (pss_cons (ps_set (i := 7) scTR.nd rfl (.inl rfl) (pe_cdk0 D_told_by G_told_by B_told_by hr (by decide) (pk_cons (pv 4) (pk_cons pe_int pk_nil))))
      (pss_cons (ps_set (i := 8) scTR.nd rfl (.inl rfl) (pe_callTy call_tuple_of (by rfl) T.b_tuple (by decide +kernel) (pa_cons (pe_lc (own := [("power", 9), ("share", 10)]) (g := (gTup K 2 (gCons (gName 9) (gCons (gName 10) gNil)))) (by rfl) scTR.nd (pi_enum (by rfl) T.b_enumerate (pa_cons (pv 1) pa_nil)) (blkOk_by (own := [("power", 9), ("share", 10)]) (N := ["tub", "shares", "none", "value", "answers", "second", "digits", "told", "terms", "power", "share", "due", "term", "numbers", "answer", "far"]) (sc := defScope sTR) (by decide +kernel)) (fun _ _ _ _ _ => (pg_tup (by rfl) (pgs_cons (pg_name (i := 9) scTR.nd rfl (.inl rfl)) (pgs_cons (pg_name (i := 10) scTR.nd rfl (.inl rfl)) pgs_nil)))) (fun _ _ _ _ _ => (pts_one (pt_cmpR op_gt (pv 10) pe_int (nomark _)))) (fun _ _ _ _ _ => (pe_tup (pa_cons (pe_tup (pa_cons (pv 9) pa_nil)) (pa_cons (pv 10) pa_nil))))) pa_nil)))
      (pss_cons (ps_set (i := 11) scTR.nd rfl (.inl rfl) (pe_tup (pa_cons (pe_ifExp (pt_cmpR op_gt (pv 2) pe_int (nomark _)) (pe_tup (pa_cons (pe_tup (pa_cons (pe_tup (pa_cons pe_int pa_nil)) (pa_cons (pv 2) pa_nil))) pa_nil)) (pe_tup pa_nil)) (pa_cons (pv 8) pa_nil))))
      (pss_cons (ps_if (PW.pt (pw_or (pt_not (pt_val (pe_callB call_isi (by rfl) T.b_isinstance (by decide +kernel) (pa_cons (pv 7) (pa_cons (pe_glob (v := .ref C) rfl Z.mgC rfl) pa_nil))))) (pw_or (pt_cmpR op_ne (pe_fld (pv 7) (by rfl)) pe_int (nomark _)) (pw_or (pt_cmpR (op_neDD (room_dd hr)) (pe_fld (pv 7) (by rfl)) (pv 11) (nomark _)) (pw_or (pt_cmpR (op_neG G_eq Ze bE pass0 (hr.mono (by decide))) (pv 7) (pe_make Z.mk_ G_Table (hr.mono (by decide)) rfl Z.mgC bI .nil pass0 (pa_cons pe_int (pa_cons (pv 11) pa_nil))) (nomark _)) (pw_or1 (pt_cmpR op_notN (pe_cd D_next_ask G_next_ask hr (by decide) (pa_cons pe_int (pa_cons (pv 4) pa_nil))) pe_non (nomark _)))))))) (pss_one (ps_ret pe_bl)) pss_nil)
      (pss_cons (ps_if (pt_cmpR (op_neL hr.units0) (pe_lc (own := [("term", 12)]) (g := (gName 12)) (by rfl) scTR.nd (pi_tup (pe_ix ix_tup (pe_fld (pv 7) (by rfl)) pe_int (fun _ _ => rfl))) (blkOk_by (own := [("term", 12)]) (N := ["tub", "shares", "none", "value", "answers", "second", "digits", "told", "terms", "power", "share", "due", "term", "numbers", "answer", "far"]) (sc := defScope sTR) (by decide +kernel)) (fun _ _ _ _ _ => (pg_name (i := 12) scTR.nd rfl (.inl rfl))) (fun _ _ _ _ _ => (pts_one (PW.pt (pw_or (pt_val (pe_callB (show CallR _ (.builtin "isinstance") (rIsi K) from call_isi) (by rfl) T.b_isinstance (by decide +kernel) (pa_cons (pe_ix (show IxR _ (rIxT K) from ix_tup) (pv 12) pe_int (fun _ _ => rfl)) (pa_cons (pe_bltn (v := .ty "bool") (u := .type "bool") (by rfl) T.b_bool (by decide +kernel) rfl) pa_nil)))) (pw_or1 (pt_not (pt_val (pe_callB (show CallR _ (.builtin "isinstance") (rIsi K) from call_isi) (by rfl) T.b_isinstance (by decide +kernel) (pa_cons (pe_ix (show IxR _ (rIxT K) from ix_tup) (pv 12) pe_int (fun _ _ => rfl)) (pa_cons (pe_bltn (v := .ty "tuple") (u := .type "tuple") (by rfl) T.b_tuple (by decide +kernel) rfl) pa_nil)))))))))) (fun _ _ _ _ _ => (pv 12))) (pe_lst pa_nil) (nomark _)) (pss_one (ps_ret pe_bl)) pss_nil)
      (pss_cons (ps_for PassesOwn.never rfl (pi_list (pv 4)) (pg_or2 (pg_tup (by rfl) (pgs_cons (pg_name (i := 13) scTR.nd rfl (.inl rfl)) (pgs_cons (pg_name (i := 14) scTR.nd rfl (.inl rfl)) pgs_nil))) (pg_lst (by rfl) (pgs_cons (pg_name (i := 13) scTR.nd rfl (.inl rfl)) (pgs_cons (pg_name (i := 14) scTR.nd rfl (.inl rfl)) pgs_nil))))
        (pss_one (ps_if (pt_cmpR op_ne (pe_meth (pv 7) Z.cl Z.at_ G_at (hr.mono (by decide)) b_at .nil pass0 (pa_cons (pe_callTy call_list_of (by rfl) T.b_list (by decide +kernel) (pa_cons (pv 13) pa_nil)) pa_nil)) (pv 14) (nomark _)) (pss_one (ps_ret pe_bl)) pss_nil)))
      (pss_cons (ps_set (i := 15) scTR.nd rfl (.inl rfl) (pe_op op_add pe_int (pe_cd D__law_dip G__law_dip hr (by decide) (pa_cons (pv 0) (pa_cons (pe_cd D__law_pick G__law_pick hr (by decide) (pa_cons (pv 0) (pa_cons (pe_lst (pa_cons pe_int (pa_cons pe_int (pa_cons (pe_op op_pow pe_int pe_int) pa_nil)))) pa_nil))) pa_nil)))))
      (pss_one (ps_ret (pe_and (pe_cmpR op_eq (pe_meth (pv 7) Z.cl Z.at_ G_at (hr.mono (by decide)) b_at .nil pass0 (pa_cons (pe_tup (pa_cons (pv 15) pa_nil)) pa_nil)) (pe_cd D__law_worth G__law_worth hr (by decide) (pa_cons (pv 1) (pa_cons (pv 15) pa_nil))) (nomark _)) (pe_one (pe_cmpR (op_eqG (rcG_ins G_eq Ze.eq Ze.fn bE pass0) (hr.mono (by decide))) (pe_cd D_told_by G_told_by hr (by decide) (pa_cons pe_int (pa_cons (pe_callTy call_tuple_of (by rfl) T.b_tuple (by decide +kernel) (pa_cons (pv 4) pa_nil)) pa_nil))) (pv 7) (nomark _)))))))))))))))), ?_⟩
  have hv := horn_ge d0
  obtain ⟨v, ev⟩ : ∃ v, v = hornD 2 ds := ⟨_, rfl⟩
  refine ⟨_, rfl, l, ds, 2, rfl, hl, hw.ok, by decide, by decide, fun H1 s1 => ?_⟩
  rw [← ev] at hv dw ⊢
  refine ⟨by show 1 ≤ sizeLine; decide, fun t0 ht0 => ⟨_, rfl, by show 2 ≤ sizeLine; decide, fun t1 ht1 => ⟨by show 1 ≤ sizeLine; decide, fun t2 ht2 => ⟨_, rfl, by show 2 ≤ sizeLine; decide, fun t3 ht3 => ⟨by show 2 ≤ sizeLine; decide, fun L hL => ?_⟩⟩⟩⟩⟩
  have x0 := new_same (o := .tup [.int 0]) ht0
  have x1 := new_same (o := .tup [.ref t0, .int no]) ht1
  have x2 := new_same (o := .lst [.int 2]) ht2
  have x3 := new_same (o := .lst [.ref t2, .int v]) ht3
  have x4 := new_same (o := .lst [.ref t1, .ref t3]) hL
  have x24 := x2.trans (x3.trans x4)
  have x14 := x1.trans x24
  have L1 : H1 L = none := (x0.trans (x1.trans (x2.trans x3))).free hL
  have a1 : AnsAt _ (.ref t1) ([0], no) := ⟨t1, .ref t0, rfl, .inr (x24 _ _ upd_same), ⟨t0, rfl, .inr (x14 _ _ upd_same)⟩⟩
  have a2 : AnsAt _ (.ref t3) ([2], v) := ⟨t3, .ref t2, rfl, .inl (x4 _ _ upd_same), ⟨t2, rfl, .inl ((x3.trans x4) _ _ upd_same)⟩⟩
  have g0 := x14 t0 _ upd_same
  have g1 := x24 t1 _ upd_same
  have g2 := (x3.trans x4) t2 _ upd_same
  have g3 := x4 t3 _ upd_same
  have hLL := upd_same (H := (L2.upd (L2.upd (L2.upd (L2.upd H1 t0 (.tup [.int 0])) t1 (.tup [.ref t0, .int no])) t2 (.lst [.int 2])) t3 (.lst [.ref t2, .int v]))) (a := L) (o := .lst [.ref t1, .ref t3])
  have s2 := s1.trans (x0.trans x14)
  have LH : H L = none := s1.free L1
  clear x0 x1 x2 x3 x4 x24 x14 ht0 ht1 ht2 ht3 hL
  generalize L2.upd (L2.upd (L2.upd (L2.upd (L2.upd H1 t0 (.tup [.int 0])) t1 (.tup [.ref t0, .int no])) t2 (.lst [.int 2])) t3 (.lst [.ref t2, .int v])) L (.lst [.ref t1, .ref t3]) = H2 at a1 a2 g0 g1 g2 g3 hLL s2 ⊢
  have hl2 := s2 _ _ hl
  have hp2 := hp.same s2
  have l_L : l ≠ L := ne_of_none hl LH
  refine ⟨fun σ G => ∃ (es : List V) (as : List (List Int × Int)) (ts : List (List Int)) (v5 v6 : Option V), σ = [some (.ref p), some (.ref l), some (.int no), some (.int v), some (.ref L), v5, v6, none, none, none, none, none, none, none, none, none] ∧ Same H G ∧ G L = some (.lst es) ∧ Paired (AnsAt G) es as ∧ ToldF no ds as ts, ?_, ?_⟩
  · refine ⟨_, rfl, _, _, rfl, rfl, _, rfl, ?_⟩
    cases hc : decide ((1 : Int) < v) with
    | false =>
      exact iteF ⟨_, _, _, _, _, rfl, s2, hLL, .cons a1 (.cons a2 .nil), .inl ⟨by rw [← ev], by rw [← ev], by have := of_decide_eq_false hc; omega⟩⟩
    | true =>
      have hv2 : 2 ≤ v := by have := of_decide_eq_true hc; omega
      refine iteT ?_
      have n60 : (2 : Int) ^ 60 = 1152921504606846976 := by decide
      refine ⟨_, rfl, _, rfl, _, _, rfl, rfl, l, ds, v + 1, rfl, hl2, hw.ok, by omega, by rw [n60]; omega, fun H3 s3 => ?_⟩
      have dig : DigOk (v + 1) ds := fun d hd => ⟨d0 d hd, by have := hv.2 d hd; omega⟩
      refine ⟨_, rfl, _, rfl, _, _, rfl, rfl, _, v + 1, ds, rfl, by omega, by rw [n60]; omega, dig, rfl, by omega, fun k lg H4 hk hz s4 hlg => ?_⟩
      have s34 := s3.trans s4
      have hLL4 := s34 _ _ hLL
      have ga : AnsL H4 (.ref L) [([0], no), ([2], v)] := ⟨L, _, rfl, .inl hLL4, .cons (a1.same s34) (.cons (a2.same s34) .nil)⟩
      have aok : AnsOk 1 [([0], no), ([2], v)] := fun e he => by
        simp only [List.mem_cons, List.not_mem_nil, or_false] at he
        rcases he with rfl | rfl
        · exact ⟨rfl, fun n hn => by rw [List.mem_singleton.mp hn]; decide, n0⟩
        · exact ⟨rfl, fun n hn => by rw [List.mem_singleton.mp hn]; decide, hv.1⟩
      have hrun : run (chs 1) ((chs 1).map fun _ => []) [([0], no), ([2], v)] = some [[no], [v]] := run1 no dw []
      refine ⟨_, rfl, 1, .ref L, _, _, rfl, ga, by decide, aok, by show 2 ≤ 100; decide, hrun, fun e => ?_, fun i r u H5 e s5 hu => ?_⟩
      · have e : nextIn [[0], [1]] [[no], [v]] = none := e
        rw [next1, if_neg (by omega)] at e
        cases e
      have e : nextIn [[0], [1]] [[no], [v]] = some (i, r) := e
      rw [next1, if_neg (by omega)] at e
      cases e
      refine ⟨_, rfl, _, _, rfl, rfl, by show 1 ≤ sizeLine; decide, fun tq htq => ?_⟩
      have x5 := new_same (o := .tup [.int (v + 1)]) htq
      have tq5 := upd_same (H := H5) (a := tq) (o := .tup [.int (v + 1)])
      have hlg5 := x5 _ _ (s5 _ _ hlg)
      have hl5 := x5 _ _ (s5 _ _ (s34 _ _ hl2))
      refine ⟨.tuple ([v + 1].map .int), .tuple ([v + 1].map .int), .tup (SqT.of (x5 _ _ hu)) (dp_ints [v + 1]), .tup (SqT.of tq5) (dp_ints [v + 1]), (ints_shaped [v + 1]).1, (ints_shaped [v + 1]).1, _, rfl, ?_⟩
      rw [show PyData.eqv (.tuple ([v + 1].map .int)) (.tuple ([v + 1].map .int)) = true from (ints_eqv [v + 1] [v + 1]).trans (decide_eq_true rfl)]
      have lk : ((ds.take k).map V.int).length = k := by rw [List.length_map, List.length_take]; omega
      refine iteF ⟨_, rfl, _, rfl, _, rfl, lg, _, rfl, .inl (SqL.of hlg5), ?_⟩
      rw [lk]
      refine ⟨_, rfl, l, _, rfl, SqL.of hl5, fun q1 hq1 => ?_⟩
      rw [cut_to ds hk]
      have x6 := new_same (o := .lst ((ds.take k).map V.int)) hq1
      refine ⟨.list ((ds.take k).map .int), .list ((ds.take k).map .int), .lst (SqL.of (x6 _ _ hlg5)) (dp_ints _), .lst (SqL.of upd_same) (dp_ints _), (ints_shaped _).2, (ints_shaped _).2, _, rfl, ?_⟩
      rw [show PyData.eqv (.list ((ds.take k).map .int)) (.list ((ds.take k).map .int)) = true from (ints_eqv _ _).trans (decide_eq_true rfl)]
      refine iteF ⟨_, rfl, _, rfl, lg, _, rfl, .inl (SqL.of (x6 _ _ hlg5)), ?_⟩
      rw [lk]
      refine ⟨_, rfl, l, _, rfl, SqL.of (x6 _ _ hl5), fun q2 hq2 => ?_⟩
      rw [cut_from ds hk]
      have x7 := new_same (o := .lst ((ds.drop k).map V.int)) hq2
      refine ⟨q2, ds.drop k, rfl, SqL.of upd_same, rfl, _, rfl, ?_⟩
      rw [sum_z hz]
      have x57 := s5.trans (x5.trans (x6.trans x7))
      refine iteF ⟨_, rfl, .inl ⟨rfl, _, SqL.of (x57 _ _ hLL4)⟩, _, rfl, _, _, rfl, rfl, by show 1 ≤ sizeLine; decide, fun z1 hz1 => ⟨_, rfl, by show 2 ≤ sizeLine; decide, fun z2 hz2 => ?_⟩⟩
      have x8 := new_same (o := .tup [.int (v + 1)]) hz1
      have x9 := new_same (o := .tup [.ref z1, .int (hornD (v + 1) ds)]) hz2
      have x29 := s34.trans (x57.trans (x8.trans x9))
      have hLz := x29 _ _ hLL
      have w1 := x9 _ _ (upd_same (a := z1) (o := .tup [.int (v + 1)]))
      have w2 := upd_same (H := (L2.upd (L2.upd (L2.upd (L2.upd H5 tq (.tup [.int (v + 1)])) q1 (.lst ((ds.take k).map V.int))) q2 (.lst ((ds.drop k).map V.int))) z1 (.tup [.int (v + 1)]))) (a := z2) (o := .tup [.ref z1, .int (hornD (v + 1) ds)])
      refine ⟨L, _, _, rfl, rfl, hLz, small1000 (by show 2 ≤ 1000; decide), ?_⟩
      have nL : ∀ {x : Addr} {o : HO}, H2 x = some o → o ≠ .lst [.ref t1, .ref t3] → x ≠ L := fun {x o} hx hne e => by
        rw [e, hLL] at hx
        exact hne (Option.some.inj hx).symm
      have n0' : t0 ≠ L := nL g0 fun e => nomatch e
      have n1' : t1 ≠ L := nL g1 fun e => nomatch e
      have n2' : t2 ≠ L := nL g2 fun e => by injection e with e; exact absurd e (fun c => nomatch c)
      have n3' : t3 ≠ L := nL g3 fun e => by injection e with e; injection e with _ e; injection e with e _; cases e
      have m1 : z1 ≠ L := (ne_of_none (x57 _ _ hLL4) hz1).symm
      have m2 : z2 ≠ L := (ne_of_none (x8 _ _ (x57 _ _ hLL4)) hz2).symm
      refine ⟨[.ref t1, .ref t3] ++ [.ref z2], [([0], no), ([2], v), ([v + 1], hornD (v + 1) ds)], [[no], [v, hornD (v + 1) ds]], _, _, rfl, same_put (s2.trans x29) LH, upd_same, .cons ⟨t1, .ref t0, rfl, .inr ?_, t0, rfl, .inr ?_⟩ (.cons ⟨t3, .ref t2, rfl, .inl ?_, t2, rfl, .inl ?_⟩ (.cons ⟨z2, .ref z1, rfl, .inr ?_, z1, rfl, .inr ?_⟩ .nil)), .inr ⟨by rw [← ev], by rw [← ev], by rw [← ev]; exact hv2⟩⟩
      · exact (upd_ne n1').trans (x29 _ _ g1)
      · exact (upd_ne n0').trans (x29 _ _ g0)
      · exact (upd_ne n3').trans (x29 _ _ g3)
      · exact (upd_ne n2').trans (x29 _ _ g2)
      · exact (upd_ne m2).trans w2
      · exact (upd_ne m1).trans w1
  · rintro σ G ⟨es, as, ts, v5, v6, rfl, sg, hgL, pes, hf⟩
    obtain ⟨f1, f2, f3, f4, f5, f6⟩ := told_facts hf hw n0
    refine ⟨_, rfl, rfl, rfl, 1, .ref L, as, ts, [row0 no, ownT 0 ds], rfl, ⟨L, es, rfl, .inl hgL, pes⟩, by decide, f1, f2, f3, f4, rfl, f5, f6, fun Ta H3 s3 tab => ?_⟩
    have hl3 := s3 _ _ (sg _ _ hl)
    refine ⟨_, rfl, l, _, rfl, SqL.of hl3, fun D hD => ?_⟩
    refine walk_in (walk_enum (K := K) (a := l) (xs := ds.map V.int)) (fun i G2 => Same H3 G2 ∧ ∃ es2, G2 D = some (.lst es2) ∧ Paired (TermH G2) es2 (ownT 0 (ds.take i)) ∧ es2.length ≤ i) ?_ ?_ ?_ ?_
    · exact ⟨new_same hD, [], upd_same, .nil, Nat.zero_le _⟩
    · rintro i G2 _ ⟨s4, _⟩
      exact SqL.of (s4 _ _ hl3)
    · rintro i x G2 G3 hi ⟨s4, es2, h2, p2, l2⟩ ⟨t0', x1, y1, rfl, ht0, rfl, e1, e2⟩
      cases Option.some.inj e1
      have e2 : (ds.map V.int)[i]? = some y1 := e2
      rw [List.getElem?_map] at e2
      obtain ⟨d, hd, rfl⟩ := Option.map_eq_some_iff.mp e2
      have id_ := lt_get hd
      have tk : ds.take (i + 1) = ds.take i ++ [d] := by rw [List.take_succ, hd]; rfl
      have x5 := new_same (o := .tup [.int (i : Nat), .int d]) ht0
      refine ⟨t0', _, rfl, SqT.of upd_same, rfl, _, _, rfl, _, _, rfl, rfl, rfl, _, rfl, _, _, rfl, rfl, _, rfl, ?_⟩
      generalize L2.upd G2 t0' (.tup [.int (i : Nat), .int d]) = G4 at x5 ⊢
      have hD4 := x5 _ _ h2
      have p4 := paired_imp (fun _ _ (h : TermH G2 _ _) => h.same x5) p2
      have li : (ds.take i).length = i := by rw [List.length_take]; omega
      cases h0 : decide ((0 : Int) < d) with
      | false =>
        refine iteF ⟨s4.trans x5, es2, hD4, ?_, by omega⟩
        rw [tk, own_snoc, if_neg (of_decide_eq_false h0), List.append_nil]
        exact p4
      | true =>
        refine iteT ⟨_, rfl, by show 1 ≤ sizeLine; decide, fun z1 hz1 => ⟨_, rfl, by show 2 ≤ sizeLine; decide, fun z2 hz2 => ?_⟩⟩
        have x6 := new_same (o := .tup [.int (i : Nat)]) hz1
        have x7 := new_same (o := .tup [.ref z1, .int d]) hz2
        have x67 := x6.trans x7
        have hD7 := x67 _ _ hD4
        refine ⟨es2, hD7, small1000 (by omega), same_put ((s4.trans x5).trans x67) hD, es2 ++ [.ref z2], upd_same, ?_, by rw [List.length_append]; show es2.length + 1 ≤ i + 1; omega⟩
        rw [tk, own_snoc, if_pos (of_decide_eq_true h0), li]
        exact paired_imp (fun _ _ h => TermH.updL h hD7) (paired_snoc ⟨z2, z1, rfl, upd_same, x7 _ _ upd_same⟩ (paired_imp (fun _ _ h => h.same x67) p4))
    · rintro G2 ⟨s4, es2, h2, p2, l2⟩
      rw [List.length_map, List.take_length] at p2
      refine ⟨D, es2, rfl, .inl ⟨SqL.of h2, fun tt htt => ?_⟩⟩
      have x5 := new_same (o := .tup es2) htt
      have tT : TermsT (L2.upd G2 tt (.tup es2)) (.ref tt) (ownT 0 ds) := ⟨tt, es2, rfl, upd_same, paired_imp (fun _ _ h => h.same x5) p2⟩
      have s5 := s4.trans x5
      generalize L2.upd G2 tt (.tup es2) = H5 at tT s5 ⊢
      refine ⟨_, rfl, _, _, rfl, rfl, _, rfl, ?_⟩
      cases h0 : decide ((0 : Int) < no)
      case' false =>
        refine iteF ⟨Nat.zero_le _, fun z hz => ?_⟩
        have k6 : Same H5 (L2.upd H5 z (.tup [])) ∧ TermsT (L2.upd H5 z (.tup [])) (.ref z) (row0 no) := ⟨new_same hz, by
          unfold row0
          rw [if_neg (of_decide_eq_false h0)]
          exact ⟨z, [], rfl, upd_same, .nil⟩⟩
        generalize L2.upd H5 z (.tup []) = H6 at k6 ⊢
        clear hz h0
        revert z H6
      case' true =>
        refine iteT ⟨by show 1 ≤ sizeLine; decide, fun z1 hz1 => ⟨_, rfl, by show 2 ≤ sizeLine; decide, fun z2 hz2 => ⟨by show 1 ≤ sizeLine; decide, fun z hz => ?_⟩⟩⟩
        have x6 := new_same (o := .tup [.int 0]) hz1
        have x7 := new_same (o := .tup [.ref z1, .int no]) hz2
        have x8 := new_same (o := .tup [.ref z2]) hz
        have k6 : Same H5 (L2.upd (L2.upd (L2.upd H5 z1 (.tup [.int 0])) z2 (.tup [.ref z1, .int no])) z (.tup [.ref z2])) ∧ TermsT (L2.upd (L2.upd (L2.upd H5 z1 (.tup [.int 0])) z2 (.tup [.ref z1, .int no])) z (.tup [.ref z2])) (.ref z) (row0 no) := ⟨x6.trans (x7.trans x8), by
          unfold row0
          rw [if_pos (of_decide_eq_true h0)]
          exact ⟨z, _, rfl, upd_same, .cons ⟨z2, z1, rfl, x8 _ _ upd_same, x8 _ _ (x7 _ _ upd_same)⟩ .nil⟩⟩
        generalize L2.upd (L2.upd (L2.upd H5 z1 (.tup [.int 0])) z2 (.tup [.ref z1, .int no])) z (.tup [.ref z2]) = H6 at k6 ⊢
        clear x6 x7 x8 hz hz1 hz2 h0 z1 z2
        revert z H6
      all_goals
        intro z H6 ⟨x6, r0⟩
        refine ⟨_, rfl, by show 2 ≤ sizeLine; decide, fun du hdu => ?_⟩
        have x7 := new_same (o := .tup [.ref z, .ref tt]) hdu
        have dT : (L2.upd H6 du (.tup [.ref z, .ref tt])) du = some (.tup [.ref z, .ref tt]) := upd_same
        have s7 := s5.trans (x6.trans x7)
        have tT7 := TermsT.same2 tT (x6.trans x7)
        have r07 := TermsT.same2 r0 x7
        generalize L2.upd H6 du (.tup [.ref z, .ref tt]) = H7 at dT s7 tT7 r07 ⊢
        obtain ⟨dx, r, rs, pT, hr3, prs⟩ := id tab
        have pT7 := s7 _ _ pT
        refine ⟨_, rfl, .ref Ta, .ref C, _, _, true, rfl, .own C, kT.ty Z.cl pT7, kT.kit, true, rfl, iteF ?_⟩
        refine ⟨_, rfl, Ta, C, dx, _, _, rfl, pT7, Z.cl, Z.nM, rfl, rfl, false, ?_, iteF ?_⟩
        · rfl
        refine ⟨_, rfl, Ta, C, dx, _, _, rfl, pT7, Z.cl, Z.nR, rfl, _, rfl, ?_⟩
        have dd := rowsD_depth [row0 no, ownT 0 ds]
        refine ⟨rowsD [row0 no, ownT 0 ds], rowsD [row0 no, ownT 0 ds], rowsT_dp (s7 _ _ hr3) (paired_imp (fun _ _ h => TermsT.same2 h s7) prs), rowsT_dp dT (.cons r07 (.cons tT7 .nil)), rowsD_lay _, rowsD_lay _, by omega, false, ?_, iteF ?_⟩
        · rw [rowsD_eqv]
          rfl
        refine ⟨_, rfl, _, rfl, fun pq dx2 hp2 hdx hne => ?_⟩
        have sM : Same H7 (L2.upd (L2.upd H7 dx2 (.own pq)) pq (.ins C dx2 [])) := (new_same hdx).trans (new_same ((upd_ne (Ne.symm hne)).trans hp2))
        have tRw : RowsV H7 (.ref du) [row0 no, ownT 0 ds] := ⟨du, _, rfl, .inr dT, .cons r07.v (.cons tT7.v .nil)⟩
        refine ⟨pq, dx2, 1, .ref du, [row0 no, ownT 0 ds], rfl, upd_same, by decide, tRw.same sM, f6, fun H8 k8 tab8 => ⟨rfl, ?_⟩⟩
        have s8 : Same H7 H8 := fun b o e => k8 _ _ (fun z => by rw [z, hp2] at e; cases e) (sM _ _ e)
        clear k8 sM tRw
        obtain ⟨dy, ry, rsy, pY, hry, prsy⟩ := id tab8
        have tabs : ∀ H', Same H7 H' → TabAt H' C Ta 1 [row0 no, ownT 0 ds] := fun H' s => ⟨dx, r, rs, s _ _ pT7, s _ _ (s7 _ _ hr3), paired_imp (fun _ _ h => TermsT.same2 h (s7.trans s)) prs⟩
        refine ⟨⟨Ta, pq, dx, dy, _, _, rfl, rfl, s8 _ _ pT7, pY, 1, _, tabs _ s8, tab8⟩, fun H9 e9 => ⟨false, rfl, iteF ?_⟩⟩
        have s9 : Same H7 H9 := s8.trans e9
        have hg9 := s9 _ _ (s7 _ _ (s3 _ _ hgL))
        have p9 := paired_imp (fun _ _ (h : AnsAt G _ _) => h.same (s3.trans (s7.trans s9))) pes
        refine ⟨_, rfl, 1, .ref L, as, ts, rfl, ⟨L, es, rfl, .inl hg9, p9⟩, by decide, f1, f2, f3, fun _ H10 s10 => ?_, fun i r u H' e => nomatch f4.symm.trans e⟩
        refine ⟨rfl, false, rfl, iteF ?_⟩
        have s10' : Same H7 H10 := s9.trans s10
        refine ⟨_, rfl, Ta, C, dx, _, _, rfl, s10' _ _ pT7, Z.cl, Z.nR, rfl, ?_⟩
        have sT : Same H3 H10 := s7.trans s10'
        have prs10 := paired_imp (fun _ _ h => TermsT.same2 h sT) prs
        obtain ⟨y0, y1, rfl, q0, q1⟩ := paired_two prs10
        obtain ⟨ta, tes, rfl, hta, ptes⟩ := q1
        refine ⟨r, _, 1, .ref ta, rfl, rfl, SqT.of (sT _ _ hr3), rfl, ta, rfl, ⟨_, SqT.of hta⟩, fun D2 hD2 => ?_⟩
        refine lc_tup (K := K) (a := ta) (xs := tes) (fun i G2 => Same H10 G2 ∧ G2 D2 = some (.lst [])) ⟨new_same hD2, upd_same⟩ (fun i G2 _ h => SqT.of (h.1 _ _ hta)) ?_ ?_
        · rintro i x G2 hx ⟨sa, hda⟩
          obtain ⟨t, ht, z, u, rfl, hz, hu⟩ := TG.paired_get ptes hx
          have hz2 := sa _ _ hz
          refine ⟨rfl, _, rfl, z, _, 1, .int t.2, rfl, rfl, SqT.of hz2, rfl, .int t.2, .ty "bool", _, _, _, rfl, .ty "bool", (HasTy.int (K := K) (H := G2) t.2).1, kit_bool (HasTy.int (K := K) (H := G2) t.2).2, _, rfl, iteF ?_⟩
          refine ⟨_, rfl, z, _, 0, .ref u, rfl, rfl, SqT.of hz2, rfl, .ref u, .ty "tuple", _, _, _, rfl, .ty "tuple", (HasTy.tup (K := K) (sa _ _ hu)).1, kit_tuple (HasTy.tup (K := K) (sa _ _ hu)).2, _, rfl, iteF ⟨sa, hda⟩⟩
        rintro G2 ⟨sa, hda⟩
        refine ⟨Nat.zero_le _, fun D3 hD3 => ?_⟩
        have hda3 := new_same (o := .lst []) hD3 _ _ hda
        refine ⟨D2, D3, [], [], rfl, rfl, SqL.of hda3, SqL.of upd_same, .inr ⟨[], .nil, false, rfl, iteF ?_⟩⟩
        have s11 : Same H3 (L2.upd G2 D3 (.lst [])) := sT.trans (sa.trans (new_same hD3))
        have tab11 : TabAt (L2.upd G2 D3 (.lst [])) C Ta 1 [row0 no, ownT 0 ds] := tabs _ (s10'.trans (sa.trans (new_same hD3)))
        have hg11 := s11 _ _ (s3 _ _ hgL)
        have p11 := paired_imp (fun _ _ (h : AnsAt G _ _) => h.same (s3.trans s11)) pes
        generalize L2.upd G2 D3 (.lst []) = H11 at s11 tab11 hg11 p11 ⊢
        clear hda3 hda sa
        have rB := rows_own_B hw n1
        have aT := at_told hf hw n0
        refine ⟨_, rfl, L, rfl, ⟨_, SqL.of hg11⟩, ?_⟩
        refine for_list (K := K) (a := L) (xs := es) (fun i σ G2 => ∃ (v13 v14 : Option V), σ = [some (.ref p), some (.ref l), some (.int no), some (.int v), some (.ref L), v5, v6, some (.ref Ta), some (.ref tt), none, none, some (.ref du), none, v13, v14, none] ∧ Same H11 G2) ⟨none, none, rfl, fun _ _ h => h⟩ ?_ ?_ ?_
        · rintro i σ G2 _ ⟨_, _, _, s12⟩
          exact SqL.of (s12 _ _ hg11)
        · rintro i x σ G2 hx ⟨v13, v14, rfl, s12⟩
          obtain ⟨e, he, a, u, rfl, ha, hu⟩ := TG.paired_get (paired_imp (fun _ _ h => h.same s12) p11) hx
          obtain ⟨x0, ex, x0a, x0b, xw⟩ := aT e (List.mem_of_getElem? he)
          obtain ⟨e1, e2⟩ := e
          have ex : e1 = [x0] := ex
          subst ex
          obtain ⟨ub, rfl, hub⟩ := hu
          have tab12 := TabAt.sameS tab11 s12
          obtain ⟨dx', r', rs', pT', _⟩ := id tab12
          refine apart2 ha rfl ⟨_, _, rfl, _, _, rfl, rfl, ?_⟩
          refine ⟨_, rfl, Ta, _, _, rfl, pT', rfl, _, rfl, ub, _, rfl, hub.imp SqL.of SqT.of, fun l3 hl3 => ?_⟩
          refine ⟨Ta, .ref l3, 1, _, [x0], 60, 60, 134, rfl, TabAt.sameS tab12 (new_same hl3), by decide, ⟨l3, rfl, .inl upd_same⟩, rfl, f6, rB, by decide, by decide, ⟨by decide, by decide⟩, (fun z hz => by rw [List.mem_singleton.mp hz]; exact ⟨x0a, x0b⟩), fun zts G' s' hts => ?_⟩
          rw [xw zts hts]
          refine ⟨_, rfl, rfl, false, ?_, iteF ⟨_, _, rfl, s12.trans ((new_same hl3).trans s')⟩⟩
          show V.bl (!decide (V.int e2 = V.int e2)) = V.bl false
          rw [decide_eq_true rfl]
          rfl
        rintro σ G2 ⟨v13, v14, rfl, s12⟩
        have sH : Same H G2 := sg.trans (s3.trans (s11.trans s12))
        have hp12 : PenAt n G2 p c := hp.same sH
        refine ⟨_, rfl, _, rfl, _, _, rfl, rfl, ⟨by decide, by decide, by decide⟩, (by show 3 ≤ sizeLine; decide), fun l2 hl2 => ?_⟩
        have hl2 : G2 l2 = none := hl2
        have x2 : Same G2 (L2.upd G2 l2 (.lst [.int 9, .int 1000, .int (10 ^ Int.toNat 15)])) := new_same hl2
        refine ⟨p, c, l2, _, n, rfl, hp12.same x2, by omega, hp12.ne hl2, upd_same, List.cons_ne_nil _ _, by show 3 ≤ 1000000; decide, fun vv G3 hvv k5 hp5 => ?_⟩
        obtain ⟨y, rfl, y1, y2⟩ : ∃ y : Int, vv = .int y ∧ 1 ≤ y ∧ y ≤ 1000000000000000 := by
          simp only [List.mem_cons, List.not_mem_nil, or_false] at hvv
          rcases hvv with rfl | rfl | rfl <;> exact ⟨_, rfl, by decide, by decide⟩
        have dy : Dv y := ⟨by omega, by
          have z : y.natAbs < 2 ^ 51 := by omega
          have e := (Nat.log2_lt (n := y.natAbs) (k := 51) (by omega)).mpr z
          omega⟩
        refine ⟨p, c, y, _, rfl, hp5, by omega, dy, fun rr G4 r0 r1 k6 hp6 => ?_⟩
        have k24 : Keep p G2 G4 := ((Keep.of_same x2).trans k5).trans k6
        have L_p : L ≠ p := hp.ne LH
        have tab4 : TabAt G4 C Ta 1 [row0 no, ownT 0 ds] := by
          obtain ⟨xs, hxs⟩ := hp12.lst
          exact TabAt.keepL (TabAt.sameS tab11 s12) hxs k24
        have hL4 : G4 L = some (.lst es) := k24 _ _ L_p (s12 _ _ hg11)
        have pa4 : Paired (AnsAt G4) es as := paired_imp (fun _ _ (h : AnsAt H11 _ _) => AnsAt.keepP (h.same s12) hp12 k24) p11
        have l4 := k24 _ _ l_p (sH _ _ hl)
        have kH : Keep p H G4 := (Keep.of_same sH).trans k24
        clear k24 x2 hl2 hvv k5 hp5 k6 dy
        refine ⟨_, _, rfl, rfl, ?_⟩
        obtain ⟨dx', r', rs', pT', _⟩ := id tab4
        refine ⟨_, rfl, Ta, _, _, rfl, pT', rfl, _, rfl, by show 1 ≤ sizeLine; decide, fun z1 hz1 => ?_⟩
        have x5 := new_same (o := .tup [.int (1 + rr)]) hz1
        have n60 : (2 : Int) ^ 60 = 1152921504606846976 := by decide
        refine ⟨Ta, .ref z1, 1, _, [1 + rr], 60, 60, 134, rfl, TabAt.sameS tab4 x5, by decide, ⟨z1, rfl, .inr upd_same⟩, rfl, f6, rB, by decide, by decide, ⟨by decide, by decide⟩, (fun z hz => by rw [List.mem_singleton.mp hz, n60]; omega), fun zts G5 s5 hts => ?_⟩
        rw [at_own (by omega) d0 hts]
        have x6 : Same G4 G5 := x5.trans s5
        refine ⟨_, rfl, _, rfl, l, ds, _, rfl, x6 _ _ l4, hw.ok, by omega, by rw [n60]; omega, fun G6 s6 => ?_⟩
        refine ⟨rfl, true, ?_, iteT ?_⟩
        · show V.bl (decide (V.int _ = V.int _)) = V.bl true
          rw [decide_eq_true rfl]
        have x7 := x6.trans s6
        refine ⟨_, rfl, L, es, rfl, .inl ⟨SqL.of (x7 _ _ hL4), fun tp htp => ?_⟩⟩
        have x8 := new_same (o := .tup es) htp
        have x9 := x7.trans x8
        refine ⟨1, .ref tp, as, ts, [row0 no, ownT 0 ds], rfl, ⟨tp, es, rfl, .inr upd_same, paired_imp (fun _ _ h => h.same x9) pa4⟩, by decide, f1, f2, f3, f4, rfl, f5, f6, fun Tb G7 s7' tabB => ?_⟩
        obtain ⟨dB, rB', rsB, pB, _⟩ := id tabB
        have x10 := x9.trans s7'
        refine ⟨_, rfl, ⟨Tb, Ta, dB, dx', _, _, rfl, rfl, pB, x10 _ _ pT', 1, _, tabB, TabAt.sameS tab4 x10⟩, fun H9 e9 => ?_⟩
        exact q H9 (kH.trans (Keep.of_same (x10.trans e9))) (hp6.same (x10.trans e9))
end
end TF52
set_option maxHeartbeats 400000
namespace TF52
open PySem PySem.Spec L2 TG TA
open PyProof.Rows hiding St
/-! ### the law -/
abbrev sLaw : Stmt := top 87
theorem scLaw : FnScope ["script", "tub", "turn", "none", "top", "straight"] ["script"] (defScope sLaw) := ⟨rfl, rfl, rfl, by decide +kernel, rfl, by decide +kernel, by decide +kernel⟩
def spLaw (K : PySem.W.Frag) : Sp := fun vs H Q _ => ∃ (a : Addr) (ns : List Int), vs = [.ref a] ∧ SqL K H a (ns.map V.int) ∧ ns.length ≤ 63 ∧ ∀ H', Q (.bl true) H'
theorem shw_of {ds : List Int} (h : (decide (ds.length = 60) && ds.all (fun d => decide (0 ≤ d)) && decide (hornD 2 ds ≤ 1000000000000000000)) = true) : ShW ds := by
  simp only [Bool.and_eq_true, decide_eq_true_eq, List.all_eq_true] at h
  exact ⟨h.1.1, h.1.2, h.2⟩
section
variable {P : Program} {w : World} {K : PySem.W.Frag} {mg : Str → Option Value} {base : Heap} {f f1 f2 f3 f4 : Addr} {fd fd1 fd2 fd3 fd4 : FuncData}
theorem ok_law (F : Fun K "law" "law" sLaw f fd) (T : Bn mg)
    (D__law_tub : Df K mg "_law_tub" sPen f1 fd1 ["script"]) (G__law_tub : FnOk P w K mg base CX0 1 f1 fd1 ["script"] (spPen K))
    (D__law_pick : Df K mg "_law_pick" sPick f2 fd2 ["tub", "some"]) (G__law_pick : FnOk P w K mg base CX0 2 f2 fd2 ["tub", "some"] (spPick K))
    (D__law_shares : Df K mg "_law_shares" sSh f3 fd3 ["tub"]) (G__law_shares : FnOk P w K mg base CX0 3 f3 fd3 ["tub"] spSh)
    (D__law_told_right : Df K mg "_law_told_right" sTR f4 fd4 ["tub", "shares", "none"]) (G__law_told_right : FnOk P w K mg base CX0 12 f4 fd4 ["tub", "shares", "none"] spTR) : FnOk P w K mg base CX0 13 f fd ["script"] (spLaw K) := by
  refine F.ok scLaw (fun vs H Q E h => ?_) (fun cdv A outer s H vs Q E hr h => ?_)
  · obtain ⟨a, ns, rfl, _⟩ := h
    rfl
  obtain ⟨sa, ns, rfl, hS, hl, q⟩ := h
  refine ⟨_, (pss_cons (ps_set (i := 1) scLaw.nd rfl (.inl rfl) (pe_cd D__law_tub G__law_tub hr (by decide) (pa_cons (pv 0) pa_nil)))
      (pss_cons (ps_for PassesOwn.never rfl (pi_range1 (by rfl) T.b_range (pa_cons pe_int pa_nil)) (pg_name (i := 2) scLaw.nd rfl (.inl rfl))
        (pss_cons (ps_set (i := 3) scLaw.nd rfl (.inl rfl) (pe_cd D__law_pick G__law_pick hr (by decide) (pa_cons (pv 1) (pa_cons (pe_lst (pa_cons pe_int (pa_cons pe_int (pa_cons pe_int (pa_cons (pe_op op_pow pe_int pe_int) pa_nil))))) pa_nil))))
        (pss_one (ps_if (pt_not (pt_val (pe_cd D__law_told_right G__law_told_right hr (by decide) (pa_cons (pv 1) (pa_cons (pe_cd D__law_shares G__law_shares hr (by decide) (pa_cons (pv 1) pa_nil)) (pa_cons (pv 3) pa_nil)))))) (pss_one (ps_ret pe_bl)) pss_nil))))
      (pss_cons (ps_par (i := 4) (j := 5) (by rfl) scLaw.nd rfl rfl (by decide) rfl rfl (pa_cons (pe_op op_cat (pe_op op_rep (pe_lst (pa_cons pe_int pa_nil)) pe_int) (pe_lst (pa_cons pe_int pa_nil))) (pa_cons (pe_op op_cat (pe_lst (pa_cons pe_int (pa_cons pe_int pa_nil))) (pe_op op_rep (pe_lst (pa_cons pe_int pa_nil)) pe_int)) pa_nil)) (by rfl))
      (pss_one (ps_ret (pe_and (pe_cd D__law_told_right G__law_told_right hr (by decide) (pa_cons (pv 1) (pa_cons (pv 4) (pa_cons pe_int pa_nil)))) (pe_and (pe_cd D__law_told_right G__law_told_right hr (by decide) (pa_cons (pv 1) (pa_cons (pv 5) (pa_cons pe_int pa_nil)))) (pe_and (pe_cd D__law_told_right G__law_told_right hr (by decide) (pa_cons (pv 1) (pa_cons (pe_op op_rep (pe_lst (pa_cons pe_int pa_nil)) pe_int) (pa_cons pe_int pa_nil)))) (pe_one (pe_cd D__law_told_right G__law_told_right hr (by decide) (pa_cons (pv 1) (pa_cons (pe_op op_cat (pe_lst (pa_cons pe_int pa_nil)) (pe_op op_rep (pe_lst (pa_cons pe_int pa_nil)) pe_int)) (pa_cons pe_int pa_nil))))))))))))), ?_⟩
  refine ⟨_, rfl, sa, ns, rfl, hS, hl, fun p c H1 _ _ hp => ?_⟩
  refine ⟨3, rfl, by decide, by decide, ?_⟩
  refine for_range (lo := 0) (n := 3) (fun i σ G => (∃ v2 v3, σ = [some (.ref sa), some (.ref p), v2, v3, none, none]) ∧ PenAt (100 * i) G p c) ⟨⟨_, _, rfl⟩, hp⟩ ?_ ?_
  · rintro i σ G0 hi ⟨⟨v2, v3, rfl⟩, hpi⟩
    refine ⟨_, rfl, _, _, rfl, rfl, ⟨by decide, by decide, by decide⟩, (by show 4 ≤ sizeLine; decide), fun X hX => ?_⟩
    have hX : G0 X = none := hX
    have sX : Same G0 (L2.upd G0 X (.lst [.int 0, .int 1, .int 5, .int (10 ^ Int.toNat 40)])) := new_same hX
    refine ⟨p, c, X, _, 100 * i, rfl, hpi.same sX, by omega, hpi.ne hX, upd_same, List.cons_ne_nil _ _, by show 4 ≤ 1000000; decide, fun v G1 hv k1 hp1 => ?_⟩
    obtain ⟨y, rfl, y1, y2⟩ : ∃ y : Int, v = .int y ∧ 0 ≤ y ∧ y ≤ 2 ^ 134 := by
      simp only [List.mem_cons, List.not_mem_nil, or_false] at hv
      rcases hv with rfl | rfl | rfl | rfl <;> exact ⟨_, rfl, by decide, by decide⟩
    refine ⟨_, rfl, _, rfl, p, c, _, rfl, hp1, by omega, fun ds l H2 hw hl0 k2 hp2 hl2 => ?_⟩
    have l_p : l ≠ p := hp1.ne hl0
    exact ⟨_, rfl, p, c, l, _, ds, y, rfl, hp2, by omega, l_p, hl2, hw, y1, y2, fun H3 k3 hp3 => ⟨true, rfl, iteF ⟨⟨_, _, rfl⟩, hp3.up (by omega)⟩⟩⟩
  · rintro σ G0 ⟨⟨v2, v3, rfl⟩, hpi⟩
    refine ⟨by show 1 ≤ sizeLine; decide, fun a1 ha1 => ⟨a1, 59, _, rfl, rfl, upd_same, by decide, by decide, by decide, fun a2 ha2 => ⟨by show 1 ≤ sizeLine; decide, fun a3 ha3 => ?_⟩⟩⟩
    have z1 := new_same (o := .lst [.int 0]) ha1
    have z2 := new_same (o := .lst (List.replicate (59 : Int).toNat [V.int 0]).flatten) ha2
    have z3 := new_same (o := .lst [.int 1]) ha3
    refine ⟨a2, a3, _, _, rfl, rfl, z3 _ _ upd_same, upd_same, by show 59 + 1 ≤ sizeLine; decide, fun a4 ha4 => ?_⟩
    have z4 := new_same (o := .lst ((List.replicate (59 : Int).toNat [V.int 0]).flatten ++ [V.int 1])) ha4
    have zA := z1.trans (z2.trans (z3.trans z4))
    have top : (L2.upd (L2.upd (L2.upd (L2.upd G0 a1 (.lst [.int 0])) a2 (.lst (List.replicate (59 : Int).toNat [V.int 0]).flatten)) a3 (.lst [.int 1])) a4 (.lst ((List.replicate (59 : Int).toNat [V.int 0]).flatten ++ [V.int 1]))) a4 = some (.lst ((List.replicate 59 (0 : Int) ++ [1]).map V.int)) := upd_same
    have f4 : G0 a4 = none := (z1.trans (z2.trans z3)).free ha4
    clear z1 z2 z3 z4
    generalize (L2.upd (L2.upd (L2.upd (L2.upd G0 a1 (.lst [.int 0])) a2 (.lst (List.replicate (59 : Int).toNat [V.int 0]).flatten)) a3 (.lst [.int 1])) a4 (.lst ((List.replicate (59 : Int).toNat [V.int 0]).flatten ++ [V.int 1]))) = G1 at zA top ⊢
    refine ⟨by show 2 ≤ sizeLine; decide, fun b1 hb1 => ⟨by show 1 ≤ sizeLine; decide, fun b2 hb2 => ⟨b2, 58, _, rfl, rfl, upd_same, by decide, by decide, by decide, fun b3 hb3 => ?_⟩⟩⟩
    have z1 := new_same (o := .lst [.int 0, .int 1]) hb1
    have z2 := new_same (o := .lst [.int 0]) hb2
    have z3 := new_same (o := .lst (List.replicate (58 : Int).toNat [V.int 0]).flatten) hb3
    refine ⟨b1, b3, _, _, rfl, rfl, z3 _ _ (z2 _ _ upd_same), upd_same, by show 2 + 58 ≤ sizeLine; decide, fun b4 hb4 => ?_⟩
    have z4 := new_same (o := .lst ([V.int 0, V.int 1] ++ (List.replicate (58 : Int).toNat [V.int 0]).flatten)) hb4
    have zB := z1.trans (z2.trans (z3.trans z4))
    have str : (L2.upd (L2.upd (L2.upd (L2.upd G1 b1 (.lst [.int 0, .int 1])) b2 (.lst [.int 0])) b3 (.lst (List.replicate (58 : Int).toNat [V.int 0]).flatten)) b4 (.lst ([V.int 0, V.int 1] ++ (List.replicate (58 : Int).toNat [V.int 0]).flatten))) b4 = some (.lst (([0, 1] ++ List.replicate 58 (0 : Int)).map V.int)) := upd_same
    have g4 : G0 b4 = none := (zA.trans (z1.trans (z2.trans z3))).free hb4
    clear z1 z2 z3 z4
    have top2 := zB _ _ top
    have zAB := zA.trans zB
    generalize (L2.upd (L2.upd (L2.upd (L2.upd G1 b1 (.lst [.int 0, .int 1])) b2 (.lst [.int 0])) b3 (.lst (List.replicate (58 : Int).toNat [V.int 0]).flatten)) b4 (.lst ([V.int 0, V.int 1] ++ (List.replicate (58 : Int).toNat [V.int 0]).flatten))) = G2 at zAB str top2 ⊢
    have hp2 := hpi.same zAB
    refine ⟨_, _, rfl, ?_⟩
    refine ⟨_, rfl, _, rfl, p, c, a4, _, _, 0, rfl, hp2, by omega, hpi.ne f4, top2, shw_of (by decide +kernel), by decide, by decide, fun G3 k3 hp3 => ⟨true, rfl, iteT ?_⟩⟩
    have b_p := hpi.ne g4
    refine ⟨_, rfl, _, rfl, p, c, b4, _, _, 1, rfl, hp3, by omega, b_p, k3 _ _ b_p str, shw_of (by decide +kernel), by decide, by decide, fun G4 k4 hp4 => ⟨true, rfl, iteT ?_⟩⟩
    refine ⟨_, rfl, by show 1 ≤ sizeLine; decide, fun c1 hc1 => ⟨c1, 60, _, rfl, rfl, upd_same, by decide, by decide, by decide, fun c2 hc2 => ?_⟩⟩
    have z1 := new_same (o := .lst [.int 0]) hc1
    have z2 := new_same (o := .lst (List.replicate (60 : Int).toNat [V.int 0]).flatten) hc2
    have c_p := hp4.ne (z1.free hc2)
    refine ⟨p, c, c2, _, List.replicate 60 0, 3, rfl, hp4.same (z1.trans z2), by omega, c_p, upd_same, shw_of (by decide +kernel), by decide, by decide, fun G5 k5 hp5 => ⟨true, rfl, iteT ?_⟩⟩
    refine ⟨_, rfl, by show 1 ≤ sizeLine; decide, fun d1 hd1 => ⟨by show 1 ≤ sizeLine; decide, fun d2 hd2 => ⟨d2, 59, _, rfl, rfl, upd_same, by decide, by decide, by decide, fun d3 hd3 => ?_⟩⟩⟩
    have z1 := new_same (o := .lst [.int 1]) hd1
    have z2 := new_same (o := .lst [.int 0]) hd2
    have z3 := new_same (o := .lst (List.replicate (59 : Int).toNat [V.int 0]).flatten) hd3
    refine ⟨d1, d3, _, _, rfl, rfl, z3 _ _ (z2 _ _ upd_same), upd_same, by show 1 + 59 ≤ sizeLine; decide, fun d4 hd4 => ?_⟩
    have z4 := new_same (o := .lst ([V.int 1] ++ (List.replicate (59 : Int).toNat [V.int 0]).flatten)) hd4
    have d_p := hp5.ne ((z1.trans (z2.trans z3)).free hd4)
    exact ⟨p, c, d4, _, [1] ++ List.replicate 59 0, 0, rfl, hp5.same (z1.trans (z2.trans (z3.trans z4))), by omega, d_p, upd_same, shw_of (by decide +kernel), by decide, by decide, fun G6 k6 hp6 => q G6⟩
end
end TF52
namespace TF52
open PySem PySem.Spec L2 TG TA
open PyProof.Rows hiding St
section
variable {K : PySem.W.Frag} {x qual : Str} {st : Stmt} {f : Addr} {fd : FuncData} {ps ks : List Str} {n : Nat}
theorem fun_kb {g : List Value → List Value → List Value} {gV : List V → List V → List V} (F : Fun K x qual st f fd)
    (h : ∀ (kV doc pm : Value) (an : Option Addr) (cdv ct : Value) (us ws : List Value), us.length = n → ws.length = ks.length → bindArgs (PySem.W.fnOf x qual (defArgs st) (defBody st) (defScope st) .none kV doc pm an cdv ct) ⟨us, ks.zip ws⟩ = pure (ps.zip (g us ws)))
    (r : ∀ {vs : List V} {us : List Value} {zs : List V} {ws : List Value}, Vals vs us → Vals zs ws → Vals (gV vs zs) (g us ws)) : KBn K fd ps n ks g gV := by
  obtain ⟨oc, od, kV, doc, pm, an, cdv, ct, osl, rfl, lk, hcd⟩ := F.ex
  exact ⟨fun s us ws _ h1 h2 => .of_eq (h kV doc pm an cdv ct us ws h1 h2), r⟩
end
section
variable {K : PySem.W.Frag}
theorem oexc_mk {C N : Addr} {nm q : Str} {bs bm : List Value} {sn : List Str} {sub : List Value} {ab : Bool} {col : Option Bool} {dd : Option Addr} {k0 k1 k2 k3 k5 : Option Value}
    (h1 : K.lookup C = some (excClassObj nm q C N bs bm true sn sub ab col dd k0 k1 k2 k3 k5 "ValueError.__new__")) (h2 : PySem.HandSPX.refsVE bm = true) (h3 : PySem.W.findIn K (.ref C) "__setattr__" = some (some (.builtin "object.__setattr__")))
    (h4 : PySem.W.subIn K (.ref C) (.type "BaseException") = some true) (h5 : PySem.W.typeIn K (.ref C) = some (.type "type")) (h6 : PySem.W.keepIn K (.ref C) = true) : OexC K C :=
  ⟨⟨nm, q, N, bs, bm, sn, sub, ab, col, dd, k0, k1, k2, k3, k5, h1, h2⟩, h3, h4, h5, h6⟩
end
theorem all_mk {l : PySem.W.OpenLaw} {w : World} {K : PySem.W.Frag} {h : Heap} {mg : Str → Option Value} {fa : Addr} (X : K.In h) (G : h.Ns mainGlobals mg) (hfa : mg "law" = some (.ref fa))
    {CB : Addr} {f11 : Addr} {d11 : FuncData}
    {tM3 tGP tF1 tF2 tF3 : Tok} {aF : Addr} {nF : Nat} {odF : Option Addr} {oslF : Array (Option Value)}
    {CTb fT fA : Addr} {dT dA : FuncData}
    {fTE : Addr} {dTE : FuncData}
    {f3 : Addr} {d3 : FuncData}
    {f4 : Addr} {d4 : FuncData}
    {f5 : Addr} {d5 : FuncData}
    {f19 : Addr} {d19 : FuncData}
    {f20 : Addr} {d20 : FuncData}
    {f22 : Addr} {d22 : FuncData}
    {f28 : Addr} {d28 : FuncData}
    {f29 : Addr} {d29 : FuncData}
    {f30 : Addr} {d30 : FuncData}
    {f31 : Addr} {d31 : FuncData}
    {f33 : Addr} {d33 : FuncData}
    {f32 : Addr} {d32 : FuncData}
    {f38 : Addr} {d38 : FuncData}
    {f39 : Addr} {d39 : FuncData}
    {f40 : Addr} {d40 : FuncData}
    {f42 : Addr} {d42 : FuncData}
    {f60 : Addr} {d60 : FuncData}
    {f73 : Addr} {d73 : FuncData}
    {f72 : Addr} {d72 : FuncData}
    {f71 : Addr} {d71 : FuncData}
    {f74 : Addr} {d74 : FuncData}
    {f8 : Addr} {d8 : FuncData}
    {f7 : Addr} {d7 : FuncData}
    {f70 : Addr} {d70 : FuncData}
    {f68 : Addr} {d68 : FuncData}
    {f69 : Addr} {d69 : FuncData}
    {f75 : Addr} {d75 : FuncData}
    {f76 : Addr} {d76 : FuncData}
    {f77 : Addr} {d77 : FuncData}
    {f79 : Addr} {d79 : FuncData}
    {f80 : Addr} {d80 : FuncData}
    {f81 : Addr} {d81 : FuncData}
    {f82 : Addr} {d82 : FuncData}
    {f83 : Addr} {d83 : FuncData}
    {f84 : Addr} {d84 : FuncData}
    {f85 : Addr} {d85 : FuncData}
    {f86 : Addr} {d86 : FuncData}
    {f87 : Addr} {d87 : FuncData}
    (b_ValueError : PySem.W.nsIn K mainGlobals "ValueError" = some none)
    (b_abs : PySem.W.nsIn K mainGlobals "abs" = some none)
    (b_all : PySem.W.nsIn K mainGlobals "all" = some none)
    (b_bool : PySem.W.nsIn K mainGlobals "bool" = some none)
    (b_divmod : PySem.W.nsIn K mainGlobals "divmod" = some none)
    (b_enumerate : PySem.W.nsIn K mainGlobals "enumerate" = some none)
    (b_int : PySem.W.nsIn K mainGlobals "int" = some none)
    (b_isinstance : PySem.W.nsIn K mainGlobals "isinstance" = some none)
    (b_len : PySem.W.nsIn K mainGlobals "len" = some none)
    (b_list : PySem.W.nsIn K mainGlobals "list" = some none)
    (b_max : PySem.W.nsIn K mainGlobals "max" = some none)
    (b_min : PySem.W.nsIn K mainGlobals "min" = some none)
    (b_range : PySem.W.nsIn K mainGlobals "range" = some none)
    (b_sorted : PySem.W.nsIn K mainGlobals "sorted" = some none)
    (b_staticmethod : PySem.W.nsIn K mainGlobals "staticmethod" = some none)
    (b_str : PySem.W.nsIn K mainGlobals "str" = some none)
    (b_sum : PySem.W.nsIn K mainGlobals "sum" = some none)
    (b_tuple : PySem.W.nsIn K mainGlobals "tuple" = some none)
    (b_type : PySem.W.nsIn K mainGlobals "type" = some none)
    (b_zip : PySem.W.nsIn K mainGlobals "zip" = some none)
    (vCB : PySem.W.nsIn K mainGlobals "BadNumber" = some (some (.ref CB)))
    (XB : OexC K CB)
    (xi : PySem.W.findIn K (.ref CB) "__init__" = some (some (.ref f11)))
    (xt : PySem.W.typeIn K (.ref f11) = some (.type "function"))
    (F11 : Fun K "__init__" "BadNumber.__init__" sBNI f11 d11)
    (xp : PySem.W.findIn K (.ref CB) "part" = some none)
    (heB : PySem.W.exmOne K (.ref CB) (.ref CB) = some true)
    (hg1 : PySem.W.findIn K (.ref CB) "__getattribute__" = some (some (.builtin "BaseException.__getattribute__")))
    (hg2 : PySem.W.findIn K (.ref CB) "__getattr__" = some none)
    (hg3 : PySem.W.subIn K (.ref CB) (.type "BaseException") = some true)
    (hg4 : PySem.W.hasDictIn K CB = true)
    (hg5 : PySem.W.findIn K (.ref CB) "__class__" = some (some (.builtin "object.__class__")))
    (hg6 : PySem.W.specialIn K (.builtin "object.__class__") "__get__" = some (some (.builtin "getset_descriptor.__get__")))
    (hg7 : PySem.W.takesIn K (.builtin "object.__class__") = some true)
    (hg8 : PySem.W.mroIn K CB (.type "object") = some true)
    (vM3 : PySem.W.nsIn K mainGlobals "MOST_NUMBERS" = some (some (.int 3 tM3)))
    (vGP : PySem.W.nsIn K mainGlobals "GREATEST_POWER" = some (some (.int 60 tGP)))
    (vF : PySem.W.nsIn K mainGlobals "FIRST_VALUES" = some (some (.ref aF)))
    (loF : K.lookup aF = some ⟨.type "tuple", odF, .seq #[.none, .int 1000000000000000000 tF1, .int 10000 tF2, .int 200 tF3] nF, oslF⟩)
    (vTb : PySem.W.nsIn K mainGlobals "Table" = some (some (.ref CTb)))
    (tg : PySem.W.plainGet K CTb Str.empty = true)
    (th : PySem.W.hasDictIn K CTb = true)
    (to : PySem.W.plainOver K CTb = true)
    (ts : PySem.W.findIn K (.ref CTb) "__setattr__" = some (some (.builtin "object.__setattr__")))
    (tm : PySem.W.makesIn K CTb = true)
    (tk : PySem.W.keepIn K (.ref CTb) = true)
    (tn0 : PySem.W.findIn K (.ref CTb) "many" = some none)
    (tn1 : PySem.W.findIn K (.ref CTb) "rows" = some none)
    (ti : PySem.W.findIn K (.ref CTb) "__init__" = some (some (.ref fT)))
    (tf : PySem.W.isFn K (.ref fT) = true)
    (ta : PySem.W.findIn K (.ref CTb) "at" = some (some (.ref fA)))
    (taf : PySem.W.isFn K (.ref fA) = true)
    (tak : PySem.W.keepIn K (.ref fA) = true)
    (FT : Fun K "__init__" "Table.__init__" sTbI fT dT)
    (FA : Fun K "at" "Table.at" sTbA fA dA)
    (tq0 : PySem.W.findIn K (.ref CTb) "__eq__" = some (some (.ref fTE)))
    (tq1 : PySem.W.findIn K (.ref CTb) "__ne__" = some (some (.builtin "object.__ne__")))
    (tq2 : PySem.W.subIn K (.ref CTb) (.type "object") = some true)
    (tq3 : PySem.W.isFn K (.ref fTE) = true)
    (FTE : Fun K "__eq__" "Table.__eq__" sTbE fTE dTE)
    (ti0 : PySem.W.findIn K (.ref CTb) "__class__" = some (some (.builtin "object.__class__")))
    (ti1 : PySem.W.specialIn K (.builtin "object.__class__") "__get__" = some (some (.builtin "getset_descriptor.__get__")))
    (ti2 : PySem.W.takesIn K (.builtin "object.__class__") = some true)
    (ti3 : PySem.W.mroIn K CTb (.type "object") = some true)
    (ti4 : PySem.W.kitOne K (.ref CTb) (.ref CTb) = some true)
    (a3 : PySem.W.nsIn K mainGlobals "is_integer" = some (some (.ref f3)))
    (F3 : Fun K "is_integer" "is_integer" sInt f3 d3)
    (a4 : PySem.W.nsIn K mainGlobals "is_within" = some (some (.ref f4)))
    (F4 : Fun K "is_within" "is_within" sWithin f4 d4)
    (a5 : PySem.W.nsIn K mainGlobals "are_numbers" = some (some (.ref f5)))
    (F5 : Fun K "are_numbers" "are_numbers" sNums f5 d5)
    (a19 : PySem.W.nsIn K mainGlobals "check_many" = some (some (.ref f19)))
    (F19 : Fun K "check_many" "check_many" sCM f19 d19)
    (a20 : PySem.W.nsIn K mainGlobals "check_numbers" = some (some (.ref f20)))
    (F20 : Fun K "check_numbers" "check_numbers" sCN f20 d20)
    (a22 : PySem.W.nsIn K mainGlobals "fixed" = some (some (.ref f22)))
    (F22 : Fun K "fixed" "fixed" sFix f22 d22)
    (a28 : PySem.W.nsIn K mainGlobals "choices" = some (some (.ref f28)))
    (F28 : Fun K "choices" "choices" sChs f28 d28)
    (a29 : PySem.W.nsIn K mainGlobals "choice_of" = some (some (.ref f29)))
    (F29 : Fun K "choice_of" "choice_of" sChO f29 d29)
    (a30 : PySem.W.nsIn K mainGlobals "choice_number" = some (some (.ref f30)))
    (F30 : Fun K "choice_number" "choice_number" sChN f30 d30)
    (a31 : PySem.W.nsIn K mainGlobals "is_row_within" = some (some (.ref f31)))
    (F31 : Fun K "is_row_within" "is_row_within" sRW f31 d31)
    (a33 : PySem.W.nsIn K mainGlobals "is_term" = some (some (.ref f33)))
    (F33 : Fun K "is_term" "is_term" sTerm f33 d33)
    (a32 : PySem.W.nsIn K mainGlobals "is_polynomial" = some (some (.ref f32)))
    (F32 : Fun K "is_polynomial" "is_polynomial" sPoly f32 d32)
    (a38 : PySem.W.nsIn K mainGlobals "ladder" = some (some (.ref f38)))
    (F38 : Fun K "ladder" "ladder" sLad f38 d38)
    (a39 : PySem.W.nsIn K mainGlobals "worth" = some (some (.ref f39)))
    (F39 : Fun K "worth" "worth" sWor f39 d39)
    (a40 : PySem.W.nsIn K mainGlobals "worth_at" = some (some (.ref f40)))
    (F40 : Fun K "worth_at" "worth_at" sWrA f40 d40)
    (a42 : PySem.W.nsIn K mainGlobals "power_at" = some (some (.ref f42)))
    (F42 : Fun K "power_at" "power_at" sPwA f42 d42)
    (a60 : PySem.W.nsIn K mainGlobals "are_rows" = some (some (.ref f60)))
    (F60 : Fun K "are_rows" "are_rows" sArR f60 d60)
    (a73 : PySem.W.nsIn K mainGlobals "base_of" = some (some (.ref f73)))
    (F73 : Fun K "base_of" "base_of" sBase f73 d73)
    (a72 : PySem.W.nsIn K mainGlobals "asked_of" = some (some (.ref f72)))
    (F72 : Fun K "asked_of" "asked_of" sAsked f72 d72)
    (a71 : PySem.W.nsIn K mainGlobals "next_in" = some (some (.ref f71)))
    (F71 : Fun K "next_in" "next_in" sNext f71 d71)
    (a74 : PySem.W.nsIn K mainGlobals "refuse_value" = some (some (.ref f74)))
    (F74 : Fun K "refuse_value" "refuse_value" sRef f74 d74)
    (a8 : PySem.W.nsIn K mainGlobals "is_answer" = some (some (.ref f8)))
    (F8 : Fun K "is_answer" "is_answer" sIsA f8 d8)
    (a7 : PySem.W.nsIn K mainGlobals "are_answers" = some (some (.ref f7)))
    (F7 : Fun K "are_answers" "are_answers" sAreA f7 d7)
    (a70 : PySem.W.nsIn K mainGlobals "values_told" = some (some (.ref f70)))
    (F70 : Fun K "values_told" "values_told" sTold f70 d70)
    (a68 : PySem.W.nsIn K mainGlobals "next_ask" = some (some (.ref f68)))
    (F68 : Fun K "next_ask" "next_ask" sNA f68 d68)
    (a69 : PySem.W.nsIn K mainGlobals "told_by" = some (some (.ref f69)))
    (F69 : Fun K "told_by" "told_by" sTB f69 d69)
    (a75 : PySem.W.nsIn K mainGlobals "terms_told" = some (some (.ref f75)))
    (F75 : Fun K "terms_told" "terms_told" sTT f75 d75)
    (a76 : PySem.W.nsIn K mainGlobals "digits_of" = some (some (.ref f76)))
    (F76 : Fun K "digits_of" "digits_of" sDig f76 d76)
    (a77 : PySem.W.nsIn K mainGlobals "powers_at" = some (some (.ref f77)))
    (F77 : Fun K "powers_at" "powers_at" sPwP f77 d77)
    (a79 : PySem.W.nsIn K mainGlobals "_law_tub" = some (some (.ref f79)))
    (F79 : Fun K "_law_tub" "_law_tub" sPen f79 d79)
    (a80 : PySem.W.nsIn K mainGlobals "_law_dip" = some (some (.ref f80)))
    (F80 : Fun K "_law_dip" "_law_dip" sDraw f80 d80)
    (a81 : PySem.W.nsIn K mainGlobals "_law_pick" = some (some (.ref f81)))
    (F81 : Fun K "_law_pick" "_law_pick" sPick f81 d81)
    (a82 : PySem.W.nsIn K mainGlobals "_law_power" = some (some (.ref f82)))
    (F82 : Fun K "_law_power" "_law_power" sPo f82 d82)
    (a83 : PySem.W.nsIn K mainGlobals "_law_shares" = some (some (.ref f83)))
    (F83 : Fun K "_law_shares" "_law_shares" sSh f83 d83)
    (a84 : PySem.W.nsIn K mainGlobals "_law_worth" = some (some (.ref f84)))
    (F84 : Fun K "_law_worth" "_law_worth" sWo f84 d84)
    (a85 : PySem.W.nsIn K mainGlobals "_law_digits" = some (some (.ref f85)))
    (F85 : Fun K "_law_digits" "_law_digits" sDi f85 d85)
    (a86 : PySem.W.nsIn K mainGlobals "_law_told_right" = some (some (.ref f86)))
    (F86 : Fun K "_law_told_right" "_law_told_right" sTR f86 d86)
    (a87 : PySem.W.nsIn K mainGlobals "law" = some (some (.ref f87)))
    (F87 : Fun K "law" "law" sLaw f87 d87)
    : ∃ fd : FuncData, (∀ (s : Shared) (v : Value), BindsTo s fd ⟨[v], []⟩ [("script", v)]) ∧ ∀ base : Heap, K.In base → base.Ns mainGlobals mg → FnOk l.prog w K mg base CX0 13 fa fd ["script"] (spLaw K) := by
  have e := hfa.symm.trans (PySem.W.mg_of X G a87)
  cases e
  have T : Bn mg := ⟨PySem.W.mg_none_of X G b_ValueError, PySem.W.mg_none_of X G b_abs, PySem.W.mg_none_of X G b_all, PySem.W.mg_none_of X G b_bool, PySem.W.mg_none_of X G b_divmod, PySem.W.mg_none_of X G b_enumerate, PySem.W.mg_none_of X G b_int, PySem.W.mg_none_of X G b_isinstance, PySem.W.mg_none_of X G b_len, PySem.W.mg_none_of X G b_list, PySem.W.mg_none_of X G b_max, PySem.W.mg_none_of X G b_min, PySem.W.mg_none_of X G b_range, PySem.W.mg_none_of X G b_sorted, PySem.W.mg_none_of X G b_staticmethod, PySem.W.mg_none_of X G b_str, PySem.W.mg_none_of X G b_sum, PySem.W.mg_none_of X G b_tuple, PySem.W.mg_none_of X G b_type, PySem.W.mg_none_of X G b_zip⟩
  have D_is_integer : Df K mg "is_integer" sInt f3 d3 ["value"] := ⟨F3, PySem.W.mg_of X G a3, F3.binds (ps := ["value"]) fun _ _ _ _ _ _ us hl => match us, hl with | [_], _ => rfl⟩
  have D_is_within : Df K mg "is_within" sWithin f4 d4 ["value", "least", "most"] := ⟨F4, PySem.W.mg_of X G a4, F4.binds (ps := ["value", "least", "most"]) fun _ _ _ _ _ _ us hl => match us, hl with | [_, _, _], _ => rfl⟩
  have D_are_numbers : Df K mg "are_numbers" sNums f5 d5 ["value"] := ⟨F5, PySem.W.mg_of X G a5, F5.binds (ps := ["value"]) fun _ _ _ _ _ _ us hl => match us, hl with | [_], _ => rfl⟩
  have D_check_many : Df K mg "check_many" sCM f19 d19 ["many"] := ⟨F19, PySem.W.mg_of X G a19, F19.binds (ps := ["many"]) fun _ _ _ _ _ _ us hl => match us, hl with | [_], _ => rfl⟩
  have D_check_numbers : Df K mg "check_numbers" sCN f20 d20 ["numbers"] := ⟨F20, PySem.W.mg_of X G a20, F20.binds (ps := ["numbers"]) fun _ _ _ _ _ _ us hl => match us, hl with | [_], _ => rfl⟩
  have D_fixed : Df K mg "fixed" sFix f22 d22 ["value"] := ⟨F22, PySem.W.mg_of X G a22, F22.binds (ps := ["value"]) fun _ _ _ _ _ _ us hl => match us, hl with | [_], _ => rfl⟩
  have D_choices : Df K mg "choices" sChs f28 d28 ["many"] := ⟨F28, PySem.W.mg_of X G a28, F28.binds (ps := ["many"]) fun _ _ _ _ _ _ us hl => match us, hl with | [_], _ => rfl⟩
  have D_choice_of : Df K mg "choice_of" sChO f29 d29 ["numbers"] := ⟨F29, PySem.W.mg_of X G a29, F29.binds (ps := ["numbers"]) fun _ _ _ _ _ _ us hl => match us, hl with | [_], _ => rfl⟩
  have D_choice_number : Df K mg "choice_number" sChN f30 d30 ["choice"] := ⟨F30, PySem.W.mg_of X G a30, F30.binds (ps := ["choice"]) fun _ _ _ _ _ _ us hl => match us, hl with | [_], _ => rfl⟩
  have D_is_row_within : Df K mg "is_row_within" sRW f31 d31 ["value", "many", "most"] := ⟨F31, PySem.W.mg_of X G a31, F31.binds (ps := ["value", "many", "most"]) fun _ _ _ _ _ _ us hl => match us, hl with | [_, _, _], _ => rfl⟩
  have D_is_term : Df K mg "is_term" sTerm f33 d33 ["choice", "value"] := ⟨F33, PySem.W.mg_of X G a33, F33.binds (ps := ["choice", "value"]) fun _ _ _ _ _ _ us hl => match us, hl with | [_, _], _ => rfl⟩
  have D_is_polynomial : Df K mg "is_polynomial" sPoly f32 d32 ["many", "choice", "value"] := ⟨F32, PySem.W.mg_of X G a32, F32.binds (ps := ["many", "choice", "value"]) fun _ _ _ _ _ _ us hl => match us, hl with | [_, _, _], _ => rfl⟩
  have D_ladder : Df K mg "ladder" sLad f38 d38 ["number", "most"] := ⟨F38, PySem.W.mg_of X G a38, F38.binds (ps := ["number", "most"]) fun _ _ _ _ _ _ us hl => match us, hl with | [_, _], _ => rfl⟩
  have D_worth : Df K mg "worth" sWor f39 d39 ["terms", "ladders"] := ⟨F39, PySem.W.mg_of X G a39, F39.binds (ps := ["terms", "ladders"]) fun _ _ _ _ _ _ us hl => match us, hl with | [_, _], _ => rfl⟩
  have D_worth_at : Df K mg "worth_at" sWrA f40 d40 ["terms", "numbers"] := ⟨F40, PySem.W.mg_of X G a40, F40.binds (ps := ["terms", "numbers"]) fun _ _ _ _ _ _ us hl => match us, hl with | [_, _], _ => rfl⟩
  have D_power_at : Df K mg "power_at" sPwA f42 d42 ["terms", "place"] := ⟨F42, PySem.W.mg_of X G a42, F42.binds (ps := ["terms", "place"]) fun _ _ _ _ _ _ us hl => match us, hl with | [_, _], _ => rfl⟩
  have D_are_rows : Df K mg "are_rows" sArR f60 d60 ["many", "value"] := ⟨F60, PySem.W.mg_of X G a60, F60.binds (ps := ["many", "value"]) fun _ _ _ _ _ _ us hl => match us, hl with | [_, _], _ => rfl⟩
  have D_base_of : Df K mg "base_of" sBase f73 d73 ["first"] := ⟨F73, PySem.W.mg_of X G a73, F73.binds (ps := ["first"]) fun _ _ _ _ _ _ us hl => match us, hl with | [_], _ => rfl⟩
  have D_asked_of : Df K mg "asked_of" sAsked f72 d72 ["choice", "values"] := ⟨F72, PySem.W.mg_of X G a72, F72.binds (ps := ["choice", "values"]) fun _ _ _ _ _ _ us hl => match us, hl with | [_, _], _ => rfl⟩
  have D_next_in : Df K mg "next_in" sNext f71 d71 ["many", "told"] := ⟨F71, PySem.W.mg_of X G a71, F71.binds (ps := ["many", "told"]) fun _ _ _ _ _ _ us hl => match us, hl with | [_, _], _ => rfl⟩
  have D_refuse_value : Df K mg "refuse_value" sRef f74 d74 ["choice", "values", "value"] := ⟨F74, PySem.W.mg_of X G a74, F74.binds (ps := ["choice", "values", "value"]) fun _ _ _ _ _ _ us hl => match us, hl with | [_, _, _], _ => rfl⟩
  have D_is_answer : Df K mg "is_answer" sIsA f8 d8 ["many", "value"] := ⟨F8, PySem.W.mg_of X G a8, F8.binds (ps := ["many", "value"]) fun _ _ _ _ _ _ us hl => match us, hl with | [_, _], _ => rfl⟩
  have D_are_answers : Df K mg "are_answers" sAreA f7 d7 ["many", "value"] := ⟨F7, PySem.W.mg_of X G a7, F7.binds (ps := ["many", "value"]) fun _ _ _ _ _ _ us hl => match us, hl with | [_, _], _ => rfl⟩
  have D_values_told : Df K mg "values_told" sTold f70 d70 ["many", "answers"] := ⟨F70, PySem.W.mg_of X G a70, F70.binds (ps := ["many", "answers"]) fun _ _ _ _ _ _ us hl => match us, hl with | [_, _], _ => rfl⟩
  have D_next_ask : Df K mg "next_ask" sNA f68 d68 ["many", "answers"] := ⟨F68, PySem.W.mg_of X G a68, F68.binds (ps := ["many", "answers"]) fun _ _ _ _ _ _ us hl => match us, hl with | [_, _], _ => rfl⟩
  have D_told_by : Df K mg "told_by" sTB f69 d69 ["many", "answers"] := ⟨F69, PySem.W.mg_of X G a69, F69.binds (ps := ["many", "answers"]) fun _ _ _ _ _ _ us hl => match us, hl with | [_, _], _ => rfl⟩
  have D_terms_told : Df K mg "terms_told" sTT f75 d75 ["choice", "values"] := ⟨F75, PySem.W.mg_of X G a75, F75.binds (ps := ["choice", "values"]) fun _ _ _ _ _ _ us hl => match us, hl with | [_, _], _ => rfl⟩
  have D_digits_of : Df K mg "digits_of" sDig f76 d76 ["value", "base"] := ⟨F76, PySem.W.mg_of X G a76, F76.binds (ps := ["value", "base"]) fun _ _ _ _ _ _ us hl => match us, hl with | [_, _], _ => rfl⟩
  have D_powers_at : Df K mg "powers_at" sPwP f77 d77 ["choice", "place", "step"] := ⟨F77, PySem.W.mg_of X G a77, F77.binds (ps := ["choice", "place", "step"]) fun _ _ _ _ _ _ us hl => match us, hl with | [_, _, _], _ => rfl⟩
  have D__law_tub : Df K mg "_law_tub" sPen f79 d79 ["script"] := ⟨F79, PySem.W.mg_of X G a79, F79.binds (ps := ["script"]) fun _ _ _ _ _ _ us hl => match us, hl with | [_], _ => rfl⟩
  have D__law_dip : Df K mg "_law_dip" sDraw f80 d80 ["tub", "many"] := ⟨F80, PySem.W.mg_of X G a80, F80.binds (ps := ["tub", "many"]) fun _ _ _ _ _ _ us hl => match us, hl with | [_, _], _ => rfl⟩
  have D__law_pick : Df K mg "_law_pick" sPick f81 d81 ["tub", "some"] := ⟨F81, PySem.W.mg_of X G a81, F81.binds (ps := ["tub", "some"]) fun _ _ _ _ _ _ us hl => match us, hl with | [_, _], _ => rfl⟩
  have D__law_power : Df K mg "_law_power" sPo f82 d82 ["number", "times"] := ⟨F82, PySem.W.mg_of X G a82, F82.binds (ps := ["number", "times"]) fun _ _ _ _ _ _ us hl => match us, hl with | [_, _], _ => rfl⟩
  have D__law_shares : Df K mg "_law_shares" sSh f83 d83 ["tub"] := ⟨F83, PySem.W.mg_of X G a83, F83.binds (ps := ["tub"]) fun _ _ _ _ _ _ us hl => match us, hl with | [_], _ => rfl⟩
  have D__law_worth : Df K mg "_law_worth" sWo f84 d84 ["shares", "number"] := ⟨F84, PySem.W.mg_of X G a84, F84.binds (ps := ["shares", "number"]) fun _ _ _ _ _ _ us hl => match us, hl with | [_, _], _ => rfl⟩
  have D__law_digits : Df K mg "_law_digits" sDi f85 d85 ["number", "base"] := ⟨F85, PySem.W.mg_of X G a85, F85.binds (ps := ["number", "base"]) fun _ _ _ _ _ _ us hl => match us, hl with | [_, _], _ => rfl⟩
  have D__law_told_right : Df K mg "_law_told_right" sTR f86 d86 ["tub", "shares", "none"] := ⟨F86, PySem.W.mg_of X G a86, F86.binds (ps := ["tub", "shares", "none"]) fun _ _ _ _ _ _ us hl => match us, hl with | [_, _, _], _ => rfl⟩
  have B_told_by : KBn K d69 ["many", "answers"] 0 ["answers", "many"] (fun us ws => us ++ ws.reverse) (fun vs zs => vs ++ zs.reverse) := fun_kb F69 (fun _ _ _ _ _ _ us ws h1 h2 => match us, h1, ws, h2 with | [], _, [_, _], _ => rfl) (fun a b => a.append b.reverse)
  have hb : ∀ (s : Shared) (v : Value), BindsTo s d87 ⟨[v], []⟩ [("script", v)] := by
    obtain ⟨oc, od, kV, doc, pm, an, cdv, ct, osl, rfl, lk, hcd⟩ := F87.ex
    exact fun s v => .of_eq rfl
  refine ⟨d87, hb, fun base _ _ => ?_⟩
  have bXI := F11.binds (ps := ["self", "part"]) fun _ _ _ _ _ _ us hl => match us, hl with | [_, _], _ => rfl
  have VB : Er1 l.prog w K mg base "BadNumber" CB f11 d11 "part" := ⟨XB, xi, xt, ok_bni F11, xp, PySem.W.mg_of X G vCB, bXI⟩
  have Z : TabC K mg CTb fT fA := ⟨⟨tg, th, to, ts⟩, tn0, tn1, PySem.W.mg_of X G vTb, ⟨tm, ti, tf, tk⟩, ⟨ta, taf, tak⟩⟩
  have bTI := FT.binds (ps := ["self", "many", "rows"]) fun _ _ _ _ _ _ us hl => match us, hl with | [_, _, _], _ => rfl
  have b_at := FA.binds (ps := ["self", "numbers"]) fun _ _ _ _ _ _ us hl => match us, hl with | [_, _], _ => rfl
  have B_at : KBn K dA ["self", "numbers"] 1 ["numbers"] (fun us ws => us ++ ws) (fun vs zs => vs ++ zs) := fun_kb FA (fun _ _ _ _ _ _ us ws h1 h2 => match us, h1, ws, h2 with | [_], _, [_], _ => rfl) (fun a b => a.append b)
  have Ze : NeC K CTb fTE := ⟨tq0, tq1, tq2, tq3⟩
  have kT : IsiC K CTb := ⟨ti0, ti1, ti2, ti3, ti4⟩
  have bTE := FTE.binds (ps := ["self", "other"]) fun _ _ _ _ _ _ us hl => match us, hl with | [_, _], _ => rfl
  have O_Teq : FnOk l.prog w K mg base CX0 2 fTE dTE ["self", "other"] (spEq (TabTwo CTb)) := ok_tbE FTE T Z
  have M3 : ∃ t, mg "MOST_NUMBERS" = some (.int 3 t) := ⟨_, PySem.W.mg_of X G vM3⟩
  have GP : ∃ t, mg "GREATEST_POWER" = some (.int 60 t) := ⟨_, PySem.W.mg_of X G vGP⟩
  have VF : FvAt K aF := fun H => .inr ⟨_, _, _, loF, rfl, rfl, by show 4 ≤ sizeLine; decide, .cons rfl (.cons ⟨_, rfl⟩ (.cons ⟨_, rfl⟩ (.cons ⟨_, rfl⟩ .nil)))⟩
  have O_is_integer : FnOk l.prog w K mg base CX0 1 f3 d3 ["value"] (spIsInt K) := ok_isint F3 T  
  have O_is_within : FnOk l.prog w K mg base CX0 2 f4 d4 ["value", "least", "most"] (spWithin K) := ok_within F4 T  D_is_integer O_is_integer
  have O_are_numbers : FnOk l.prog w K mg base CX0 3 f5 d5 ["value"] (spNums K) := ok_nums F5 T  D_is_within O_is_within
  have O_check_many : FnOk l.prog w K mg base CX0 3 f19 d19 ["many"] spCM := ok_cm F19 T M3 D_is_within O_is_within
  have O_choices : FnOk l.prog w K mg base CX0 4 f28 d28 ["many"] spChs := ok_chs F28 T  D_check_many O_check_many
  have O_is_row_within : FnOk l.prog w K mg base CX0 3 f31 d31 ["value", "many", "most"] (spRow K) := ok_rw F31 T  D_is_within O_is_within
  have O_is_term : FnOk l.prog w K mg base CX0 4 f33 d33 ["choice", "value"] (spTerm K) := ok_term F33 T GP D_is_row_within O_is_row_within D_is_within O_is_within
  have O_is_polynomial : FnOk l.prog w K mg base CX0 5 f32 d32 ["many", "choice", "value"] (spPoly K) := ok_poly F32 T  D_check_many O_check_many D_is_row_within O_is_row_within D_is_term O_is_term
  have O_check_numbers : FnOk l.prog w K mg base (L2.CX l.prog w) 4 f20 d20 ["numbers"] (spCNX K CB) := ok_cnx F20 T M3 VB D_are_numbers O_are_numbers
  have O_choice_of : FnOk l.prog w K mg base (L2.CX l.prog w) 5 f29 d29 ["numbers"] (spChO K CB) := ok_cho (fI := f11) (fdI := d11) F29 T  D_check_numbers O_check_numbers
  have O_choice_number : FnOk l.prog w K mg base CX0 1 f30 d30 ["choice"] spChN := ok_chn F30 T  
  have O_ladder : FnOk l.prog w K mg base CX0 1 f38 d38 ["number", "most"] spLad := ok_lad F38 T  
  have O_power_at : FnOk l.prog w K mg base CX0 1 f42 d42 ["terms", "place"] spPwA := ok_pwa F42 T  
  have O_worth : FnOk l.prog w K mg base CX0 5 f39 d39 ["terms", "ladders"] (spWor 4) := ok_wor F39 T D_worth D_power_at O_power_at 4
  have O_worth_at : FnOk l.prog w K mg base CX0 6 f40 d40 ["terms", "numbers"] spWrA := ok_wra F40 T  D_ladder O_ladder D_power_at O_power_at D_worth O_worth
  have O_fixed : FnOk l.prog w K mg base CX0 5 f22 d22 ["value"] (spFixS 5) := ok_fixS D_fixed T 5
  have O_are_rows : FnOk l.prog w K mg base CX0 6 f60 d60 ["many", "value"] (spArR K) := ok_arr F60 T  D_choices O_choices D_is_polynomial O_is_polynomial
  have O_Table : FnOk l.prog w K mg base CX0 7 fT dT ["self", "many", "rows"] (spTbI CTb) := ok_tbI FT T Z D_check_many O_check_many D_are_rows O_are_rows D_fixed O_fixed
  have O_at : FnOk l.prog w K mg base CX0 7 fA dA ["self", "numbers"] (spTbA CTb) := ok_tbA FA T Z D_are_numbers O_are_numbers D_choice_of O_choice_of D_choice_number O_choice_number D_worth_at O_worth_at
  have O_base_of : FnOk l.prog w K mg base CX0 1 f73 d73 ["first"] spBase := ok_base F73 T  
  have O_asked_of : FnOk l.prog w K mg base CX0 2 f72 d72 ["choice", "values"] spAsked := ok_asked F72 T  D_base_of O_base_of D_ladder O_ladder
  have O_next_in : FnOk l.prog w K mg base CX0 5 f71 d71 ["many", "told"] spNext := ok_next F71 T  D_choices O_choices D_asked_of O_asked_of
  have O_refuse_value : FnOk l.prog w K mg base CX0 1 f74 d74 ["choice", "values", "value"] spRefuseV := ok_ref F74 T (PySem.W.mg_of X G vF) VF 
  have O_is_answer : FnOk l.prog w K mg base CX0 4 f8 d8 ["many", "value"] (spIsAns K) := ok_isa F8 T  D_are_numbers O_are_numbers D_is_within O_is_within
  have O_are_answers : FnOk l.prog w K mg base CX0 5 f7 d7 ["many", "value"] (spAreAns K) := ok_area F7 T  D_is_answer O_is_answer
  have O_values_told : FnOk l.prog w K mg base CX0 6 f70 d70 ["many", "answers"] (spTold K) := ok_told F70 T  D_check_many O_check_many D_are_answers O_are_answers D_choices O_choices D_next_in O_next_in D_refuse_value O_refuse_value
  have O_next_ask : FnOk l.prog w K mg base CX0 7 f68 d68 ["many", "answers"] (spNextAsk K) := ok_nextask F68 T  D_next_in O_next_in D_values_told O_values_told
  have O_digits_of : FnOk l.prog w K mg base CX0 1 f76 d76 ["value", "base"] spDig := ok_dig F76 T  
  have O_powers_at : FnOk l.prog w K mg base CX0 1 f77 d77 ["choice", "place", "step"] spPwP := ok_pwp F77 T  
  have O_terms_told : FnOk l.prog w K mg base CX0 2 f75 d75 ["choice", "values"] spTT := ok_tt F75 T  D_base_of O_base_of D_digits_of O_digits_of D_powers_at O_powers_at
  have O_told_by : FnOk l.prog w K mg base CX0 9 f69 d69 ["many", "answers"] (spTB K CTb) := ok_tb F69 T  Z O_Table bTI D_values_told O_values_told D_next_in O_next_in D_choices O_choices D_terms_told O_terms_told
  have O__law_tub : FnOk l.prog w K mg base CX0 1 f79 d79 ["script"] (spPen K) := ok_pen F79 T  
  have O__law_dip : FnOk l.prog w K mg base CX0 1 f80 d80 ["tub", "many"] spDraw := ok_draw F80 T  
  have O__law_pick : FnOk l.prog w K mg base CX0 2 f81 d81 ["tub", "some"] (spPick K) := ok_pick F81 T  D__law_dip O__law_dip
  have O__law_power : FnOk l.prog w K mg base CX0 1 f82 d82 ["number", "times"] spPo := ok_po F82 T  
  have O__law_shares : FnOk l.prog w K mg base CX0 3 f83 d83 ["tub"] spSh := ok_sh F83 T  D__law_dip O__law_dip D__law_pick O__law_pick D__law_power O__law_power
  have O__law_worth : FnOk l.prog w K mg base CX0 1 f84 d84 ["shares", "number"] spWo := ok_wo F84 T  
  have O__law_digits : FnOk l.prog w K mg base CX0 1 f85 d85 ["number", "base"] spDi := ok_di F85 T  
  have O__law_told_right : FnOk l.prog w K mg base CX0 12 f86 d86 ["tub", "shares", "none"] spTR := ok_tr kT F86 T Z O_at b_at O_Table bTI Ze O_Teq bTE D__law_worth O__law_worth D__law_digits O__law_digits D_next_ask O_next_ask D_told_by O_told_by B_told_by D__law_dip O__law_dip D__law_pick O__law_pick
  exact ok_law F87 T D__law_tub O__law_tub D__law_pick O__law_pick D__law_shares O__law_shares D__law_told_right O__law_told_right
theorem walk {l : PySem.W.OpenLaw} {q : Program} {loose : List Str} {XP : (Str → Option Value) → Heap → Prop} {YP : World → Heap → Prop} {d : DefRec} {K : Params → PySem.W.Frag} (hn : l.most = some 63) (hdf : d.params.defaults = [])
    (hY : ∀ (w : World) (h : Heap), YP w h → (K w.params).In h)
    (F : ∀ (w : World) (mg : Str → Option Value) (fa : Addr) (h : Heap), (K w.params).In h → h.Ns mainGlobals mg → mg d.name = some (.ref fa) →
      ∃ fd : FuncData, (∀ (s : Shared) (u : Value), BindsTo s fd ⟨[u], []⟩ [("script", u)]) ∧ ∀ base : Heap, (K w.params).In base → base.Ns mainGlobals mg → FnOk l.prog w (K w.params) mg base CX0 13 fa fd ["script"] (spLaw (K w.params))) :
    PySem.W.WalkO q loose XP YP l.row.toRowW d [] (fun f vs => PySem.call f vs) :=
  L2.walk_of (n := 63) (k := 13) (x := "script") (CX := fun _ => CX0) (sp := fun w => spLaw (K w.params)) hn (by decide) hdf ⟨rfl, by decide, by decide⟩ hY F (fun (_ : World) _ a ns hl _ hS => ⟨a, ns, rfl, hS, hl, fun _ => rfl⟩) fun _ _ _ _ _ z => z
end TF52
open PySem PySem.W PyProof.Rows
set_option maxRecDepth 100000 in
set_option maxHeartbeats 0 in
theorem PySem.Challenge.cw_timesagain_k52_one_number_told_by_two_as_holds : PySem.Challenge.rw_timesagain_k52_one_number_told_by_two_as.Holds := by
  w_on; o_law; k_head; (case hw => w_witness2)
  k_fill
  refine TF52.walk (l := PySem.Challenge.rw_timesagain_k52_one_number_told_by_two_as) rfl rfl (fun w h Y => PySem.W.kIn_of Y) ?F
  case F =>
    intro w mg fa h KX G hmg
    refine' TF52.all_mk KX G hmg
      ?b_ValueError ?b_abs ?b_all ?b_bool ?b_divmod ?b_enumerate ?b_int ?b_isinstance ?b_len ?b_list ?b_max ?b_min ?b_range ?b_sorted ?b_staticmethod ?b_str ?b_sum ?b_tuple ?b_type
      ?b_zip ?vCB (TF52.oexc_mk ?xL ?xB ?xS ?xE ?xY ?xK) ?xi ?xt (L2.fun_mk ?l11 ?c11 ?k11) ?xp ?heB ?hg1 ?hg2 ?hg3 ?hg4 ?hg5 ?hg6 ?hg7 ?hg8 ?vM3 ?vGP ?vF ?loF ?vTb ?tg ?th ?to ?ts
      ?tm ?tk ?tn0 ?tn1 ?ti ?tf ?ta ?taf ?tak (L2.fun_mk ?lT ?cT ?kT) (L2.fun_mk ?lA ?cA ?kA) ?tq0 ?tq1 ?tq2 ?tq3 (L2.fun_mk ?lTE ?cTE ?kTE) ?ti0 ?ti1 ?ti2 ?ti3 ?ti4 ?a3
      (L2.fun_mk ?l3 ?c3 ?k3) ?a4 (L2.fun_mk ?l4 ?c4 ?k4) ?a5 (L2.fun_mk ?l5 ?c5 ?k5) ?a19 (L2.fun_mk ?l19 ?c19 ?k19) ?a20 (L2.fun_mk ?l20 ?c20 ?k20) ?a22 (L2.fun_mk ?l22 ?c22 ?k22)
      ?a28 (L2.fun_mk ?l28 ?c28 ?k28) ?a29 (L2.fun_mk ?l29 ?c29 ?k29) ?a30 (L2.fun_mk ?l30 ?c30 ?k30) ?a31 (L2.fun_mk ?l31 ?c31 ?k31) ?a33 (L2.fun_mk ?l33 ?c33 ?k33) ?a32
      (L2.fun_mk ?l32 ?c32 ?k32) ?a38 (L2.fun_mk ?l38 ?c38 ?k38) ?a39 (L2.fun_mk ?l39 ?c39 ?k39) ?a40 (L2.fun_mk ?l40 ?c40 ?k40) ?a42 (L2.fun_mk ?l42 ?c42 ?k42) ?a60
      (L2.fun_mk ?l60 ?c60 ?k60) ?a73 (L2.fun_mk ?l73 ?c73 ?k73) ?a72 (L2.fun_mk ?l72 ?c72 ?k72) ?a71 (L2.fun_mk ?l71 ?c71 ?k71) ?a74 (L2.fun_mk ?l74 ?c74 ?k74) ?a8
      (L2.fun_mk ?l8 ?c8 ?k8) ?a7 (L2.fun_mk ?l7 ?c7 ?k7) ?a70 (L2.fun_mk ?l70 ?c70 ?k70) ?a68 (L2.fun_mk ?l68 ?c68 ?k68) ?a69 (L2.fun_mk ?l69 ?c69 ?k69) ?a75
      (L2.fun_mk ?l75 ?c75 ?k75) ?a76 (L2.fun_mk ?l76 ?c76 ?k76) ?a77 (L2.fun_mk ?l77 ?c77 ?k77) ?a79 (L2.fun_mk ?l79 ?c79 ?k79) ?a80 (L2.fun_mk ?l80 ?c80 ?k80) ?a81
      (L2.fun_mk ?l81 ?c81 ?k81) ?a82 (L2.fun_mk ?l82 ?c82 ?k82) ?a83 (L2.fun_mk ?l83 ?c83 ?k83) ?a84 (L2.fun_mk ?l84 ?c84 ?k84) ?a85 (L2.fun_mk ?l85 ?c85 ?k85) ?a86
      (L2.fun_mk ?l86 ?c86 ?k86) ?a87 (L2.fun_mk ?l87 ?c87 ?k87)
    (case b_ValueError => k_is)
    (case b_abs => k_is)
    (case b_all => k_is)
    (case b_bool => k_is)
    (case b_divmod => k_is)
    (case b_enumerate => k_is)
    (case b_int => k_is)
    (case b_isinstance => k_is)
    (case b_len => k_is)
    (case b_list => k_is)
    (case b_max => k_is)
    (case b_min => k_is)
    (case b_range => k_is)
    (case b_sorted => k_is)
    (case b_staticmethod => k_is)
    (case b_str => k_is)
    (case b_sum => k_is)
    (case b_tuple => k_is)
    (case b_type => k_is)
    (case b_zip => k_is)
    (case vCB => k_is)
    (case xL => k_is)
    (case xB => kernel_rfl)
    (case xS => k_is)
    (case xE => k_is)
    (case xY => k_is)
    (case xK => k_is)
    (case xi => k_is)
    (case xt => k_is)
    (case l11 => k_is)
    (case c11 => k_is)
    (case k11 => k_is)
    (case xp => k_is)
    (case heB => first | k_is | kernel_rfl)
    (case hg1 => k_is)
    (case hg2 => k_is)
    (case hg3 => k_is)
    (case hg4 => k_is)
    (case hg5 => k_is)
    (case hg6 => k_is)
    (case hg7 => k_is)
    (case hg8 => k_is)
    (case vM3 => k_is)
    (case vGP => k_is)
    (case vF => k_is)
    (case loF => k_is)
    (case vTb => k_is)
    (case tg => k_is)
    (case th => k_is)
    (case to => k_is)
    (case ts => k_is)
    (case tm => k_is)
    (case tk => k_is)
    (case tn0 => k_is)
    (case tn1 => k_is)
    (case ti => k_is)
    (case tf => k_is)
    (case ta => k_is)
    (case taf => k_is)
    (case tak => k_is)
    (case lT => k_is)
    (case cT => k_is)
    (case kT => k_is)
    (case lA => k_is)
    (case cA => k_is)
    (case kA => k_is)
    (case tq0 => k_is)
    (case tq1 => k_is)
    (case tq2 => k_is)
    (case tq3 => k_is)
    (case lTE => k_is)
    (case cTE => k_is)
    (case kTE => k_is)
    (case ti0 => k_is)
    (case ti1 => k_is)
    (case ti2 => k_is)
    (case ti3 => k_is)
    (case ti4 => first | k_is | kernel_rfl)
    (case a3 => k_is)
    (case l3 => k_is)
    (case c3 => k_is)
    (case k3 => k_is)
    (case a4 => k_is)
    (case l4 => k_is)
    (case c4 => k_is)
    (case k4 => k_is)
    (case a5 => k_is)
    (case l5 => k_is)
    (case c5 => k_is)
    (case k5 => k_is)
    (case a19 => k_is)
    (case l19 => k_is)
    (case c19 => k_is)
    (case k19 => k_is)
    (case a20 => k_is)
    (case l20 => k_is)
    (case c20 => k_is)
    (case k20 => k_is)
    (case a22 => k_is)
    (case l22 => k_is)
    (case c22 => k_is)
    (case k22 => k_is)
    (case a28 => k_is)
    (case l28 => k_is)
    (case c28 => k_is)
    (case k28 => k_is)
    (case a29 => k_is)
    (case l29 => k_is)
    (case c29 => k_is)
    (case k29 => k_is)
    (case a30 => k_is)
    (case l30 => k_is)
    (case c30 => k_is)
    (case k30 => k_is)
    (case a31 => k_is)
    (case l31 => k_is)
    (case c31 => k_is)
    (case k31 => k_is)
    (case a33 => k_is)
    (case l33 => k_is)
    (case c33 => k_is)
    (case k33 => k_is)
    (case a32 => k_is)
    (case l32 => k_is)
    (case c32 => k_is)
    (case k32 => k_is)
    (case a38 => k_is)
    (case l38 => k_is)
    (case c38 => k_is)
    (case k38 => k_is)
    (case a39 => k_is)
    (case l39 => k_is)
    (case c39 => k_is)
    (case k39 => k_is)
    (case a40 => k_is)
    (case l40 => k_is)
    (case c40 => k_is)
    (case k40 => k_is)
    (case a42 => k_is)
    (case l42 => k_is)
    (case c42 => k_is)
    (case k42 => k_is)
    (case a60 => k_is)
    (case l60 => k_is)
    (case c60 => k_is)
    (case k60 => k_is)
    (case a73 => k_is)
    (case l73 => k_is)
    (case c73 => k_is)
    (case k73 => k_is)
    (case a72 => k_is)
    (case l72 => k_is)
    (case c72 => k_is)
    (case k72 => k_is)
    (case a71 => k_is)
    (case l71 => k_is)
    (case c71 => k_is)
    (case k71 => k_is)
    (case a74 => k_is)
    (case l74 => k_is)
    (case c74 => k_is)
    (case k74 => k_is)
    (case a8 => k_is)
    (case l8 => k_is)
    (case c8 => k_is)
    (case k8 => k_is)
    (case a7 => k_is)
    (case l7 => k_is)
    (case c7 => k_is)
    (case k7 => k_is)
    (case a70 => k_is)
    (case l70 => k_is)
    (case c70 => k_is)
    (case k70 => k_is)
    (case a68 => k_is)
    (case l68 => k_is)
    (case c68 => k_is)
    (case k68 => k_is)
    (case a69 => k_is)
    (case l69 => k_is)
    (case c69 => k_is)
    (case k69 => k_is)
    (case a75 => k_is)
    (case l75 => k_is)
    (case c75 => k_is)
    (case k75 => k_is)
    (case a76 => k_is)
    (case l76 => k_is)
    (case c76 => k_is)
    (case k76 => k_is)
    (case a77 => k_is)
    (case l77 => k_is)
    (case c77 => k_is)
    (case k77 => k_is)
    (case a79 => k_is)
    (case l79 => k_is)
    (case c79 => k_is)
    (case k79 => k_is)
    (case a80 => k_is)
    (case l80 => k_is)
    (case c80 => k_is)
    (case k80 => k_is)
    (case a81 => k_is)
    (case l81 => k_is)
    (case c81 => k_is)
    (case k81 => k_is)
    (case a82 => k_is)
    (case l82 => k_is)
    (case c82 => k_is)
    (case k82 => k_is)
    (case a83 => k_is)
    (case l83 => k_is)
    (case c83 => k_is)
    (case k83 => k_is)
    (case a84 => k_is)
    (case l84 => k_is)
    (case c84 => k_is)
    (case k84 => k_is)
    (case a85 => k_is)
    (case l85 => k_is)
    (case c85 => k_is)
    (case k85 => k_is)
    (case a86 => k_is)
    (case l86 => k_is)
    (case c86 => k_is)
    (case k86 => k_is)
    (case a87 => k_is)
    (case l87 => k_is)
    (case c87 => k_is)
    (case k87 => k_is)
